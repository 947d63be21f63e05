"""Boards near the bounds of point 1 and somewhat beyond them, answered in some seconds."""

import random
import time
import unittest

from apart import HUNDRED, first_bad_apart, missing_line
from fitboard.lines import bars, first_bad
from fitboard.needs import first_clash, first_open, fits
from fitboard.search import worked_out

SECONDS = 30


def names(count):
    return [f"part{each:03}" for each in range(count)]


def chain(count, versions, last_needs):
    """Parts that each need the next one in the same version."""
    parts = names(count)
    shelf = []
    for part, following in zip(parts, parts[1:] + [None]):
        for version in versions:
            needs = last_needs if following is None else [(following, version, version)]
            shelf.append((part, version, list(needs)))
    return shelf


class SizesTest(unittest.TestCase):
    def told(self, shelf, start):
        begun = time.monotonic()
        choice, lines = worked_out(shelf, start)
        bad = first_bad(shelf, start, lines)
        self.assertLess(time.monotonic() - begun, SECONDS)
        self.assertIsNone(bad)
        self.assertIsNone(first_bad_apart(shelf, start, lines[:300]))
        if choice is None:
            self.assertEqual(lines[-1][0], [])
        else:
            self.assertIsNone(first_clash(shelf, start, choice))
            self.assertIsNone(first_open(shelf, start, choice))
            self.assertTrue(fits(shelf, start, choice))
            self.assertFalse(bars(lines, choice))
            self.assertIsNone(missing_line(shelf, start, choice, lines))
        return choice

    def test_a_hundred_parts_of_ten_versions(self):
        for count in (100, 120):
            shelf = [(part, version, []) for part in names(count) for version in range(10)]
            start = [(part, 0, 8) for part in names(count)]
            self.assertEqual(self.told(shelf, start), [(part, 8) for part in names(count)])

    def test_a_thousand_versions_of_one_part(self):
        for count in (1000, 1200):
            shelf = [("lid", version, []) for version in range(count)]
            self.assertEqual(self.told(shelf, [("lid", 0, count)]), [("lid", count - 1)])
            self.assertEqual(self.told(shelf, [("lid", 0, count), ("lid", 0, 0)]), [("lid", 0)])

    def test_a_thousand_versions_of_which_only_the_oldest_fits(self):
        for count in (1000, 1200):
            shelf = [("lid", version, [("pan", version, version)]) for version in range(count)] + [("pan", 0, [])]
            self.assertEqual(self.told(shelf, [("lid", 0, count)]), [("lid", 0), ("pan", 0)])
            self.assertIsNone(self.told(shelf, [("lid", 1, count)]))

    def test_a_thousand_needs_at_the_start(self):
        for count in (1000, 1200):
            shelf = [("lid", version, []) for version in range(count)] + [("pan", 1, [])]
            start = [("lid", 0, count - each) for each in range(count - 1)] + [("pan", 0, 1)]
            self.assertEqual(self.told(shelf, start), [("lid", 2), ("pan", 1)])

    def test_a_thousand_needs_of_each_version(self):
        parts = names(100)
        chance = random.Random(1)
        shelf = []
        for part in parts:
            for version in (1, 2):
                shelf.append((part, version, [(chance.choice(parts), 0, 9) for each in range(1000)]))
        self.assertEqual(self.told(shelf, [(parts[0], 0, 9)]), [(part, 2) for part in parts])

    def test_a_chain_of_a_hundred_parts(self):
        for count in (100, 120):
            shelf = chain(count, range(10), [])
            self.assertEqual(self.told(shelf, [("part000", 0, 9)]), [(part, 9) for part in names(count)])
            every = [(part, 0, 9) for part in names(count)]
            self.assertEqual(self.told(shelf, every), [(part, 9) for part in names(count)])
            self.assertEqual(self.told(shelf, every[::-1]), [(part, 9) for part in names(count)])

    def test_a_chain_whose_last_part_leaves_one_version(self):
        shelf = chain(100, range(10), [])
        oldest = [(part, 0) for part in names(100)]
        every = [(part, 0, 9) for part in names(100)]
        last = ("part099", 0, 0)
        self.assertEqual(self.told(shelf, [("part000", 0, 9), last]), oldest)
        self.assertEqual(self.told(shelf, [last, ("part000", 0, 9)]), oldest)
        self.assertEqual(self.told(shelf, every + [last]), oldest)
        self.assertEqual(self.told(shelf, [last] + every), oldest)
        self.assertEqual(self.told(shelf, every[::-1] + [last]), oldest)

    def test_a_chain_whose_last_part_has_no_version_that_fits(self):
        shelf = chain(100, range(10), [("none", 0, 0)])
        self.assertIsNone(self.told(shelf, [("part000", 0, 9)]))
        self.assertIsNone(self.told(shelf, [(part, 0, 9) for part in names(100)]))

    def test_a_ring_of_a_hundred_parts(self):
        parts = names(100)
        pairs = list(zip(parts, parts[1:] + parts[:1]))
        shelf = [(part, version, [(other, version, version)]) for part, other in pairs for version in range(10)]
        self.assertEqual(self.told(shelf, [(parts[50], 0, 7)]), [(part, 7) for part in parts])
        shelf = [(part, version, [(other, version + 1, 9)]) for part, other in pairs for version in range(10)]
        self.assertIsNone(self.told(shelf, [(parts[50], 0, 9)]))

    def test_each_part_needs_all_others_in_the_same_version(self):
        parts = names(100)
        needs = {version: [(part, version, version) for part in parts] for version in range(10)}
        shelf = [(part, version, needs[version]) for part in parts for version in range(10)]
        self.assertEqual(self.told(shelf, [(parts[7], 0, 9)]), [(part, 9) for part in parts])
        start = [(part, 0, 9) for part in parts] + [(parts[-1], 0, 3)]
        self.assertEqual(self.told(shelf, start), [(part, 3) for part in parts])

    def test_a_fault_far_from_what_is_to_blame_for_it(self):
        parts = names(60)
        shelf = [(part, version, []) for part in parts for version in range(10)]
        shelf += [("first", version, [("last", version, version)]) for version in range(10)]
        shelf += [("last", version, [("end", 3, 3)] if version == 2 else [("end", 4, 4)]) for version in range(10)]
        shelf += [("end", 3, [])]
        start = [("first", 0, 9)] + [(part, 0, 9) for part in parts]
        told = [("end", 3), ("first", 2), ("last", 2)] + [(part, 9) for part in parts]
        self.assertEqual(self.told(shelf, start), sorted(told))
        shelf.pop()
        self.assertIsNone(self.told(shelf, start))

    def test_a_chain_does_not_take_lines_without_end(self):
        shelf = chain(100, range(10), [])
        start = [(part, 0, 9) for part in names(100)] + [("part099", 0, 0)]
        self.assertLess(len(worked_out(shelf, start)[1]), 3 * len(shelf))

    def test_boards_on_which_many_picks_are_taken_back(self):
        for seed in range(10):
            chance = random.Random(seed)
            parts = names(30)
            shelf = []
            for part in parts:
                for version in range(30):
                    needs = []
                    for each in range(chance.randint(0, 5)):
                        low = chance.randint(0, 29)
                        needs.append((chance.choice(parts), low, low + chance.randint(0, 20)))
                    shelf.append((part, version, needs))
            self.told(shelf, [(part, 0, 29) for part in chance.sample(parts, 10)])

    def test_many_parts_that_come_to_nothing_by_themselves(self):
        parts = names(24)
        shelf = [("app", 2, [(part, 1, 9) for part in parts] + [("base", 1, 1)]), ("app", 1, [])]
        shelf += [(part, version, []) for part in parts for version in range(1, 10)]
        shelf += [("base", 1, [("core", 1, 2)]), ("core", 1, [("base", 2, 2)]), ("core", 2, [("core", 1, 1)])]
        self.assertEqual(self.told(shelf, [("app", 1, 2)]), [("app", 1)])

    def test_versions_of_a_hundred_figures_and_more(self):
        for big in (HUNDRED, 10 ** 130):
            shelf = chain(100, [big - each for each in range(5)] + [-big], [])
            start = [("part000", -big, big), ("part099", -big, big - 3)]
            self.assertEqual(self.told(shelf, start), [(part, big - 3) for part in names(100)])

    def test_many_lines_that_were_told_are_handed_in(self):
        # Seven holders that each need a place of their own, of which there are six.
        holders = [f"holder{each}" for each in range(7)]
        shelf = []
        for place in range(6):
            shelf += [(holder, place, [(f"place{place}", at, at)]) for at, holder in enumerate(holders)]
            shelf += [(f"place{place}", at, []) for at in range(7)]
        start = [(holder, 0, 5) for holder in holders]
        self.assertIsNone(self.told(shelf, start))
        choice, lines = worked_out(shelf, start)
        self.assertGreater(len(lines), 1000)
        self.assertIsNone(first_bad(shelf, start, lines + lines))
        self.assertEqual(first_bad(shelf, start, lines + [([], ("open", None, 9, []))]), len(lines))
        self.assertTrue(bars(lines, []))
        self.assertFalse(bars(lines[:-1], []))


if __name__ == "__main__":
    unittest.main()
