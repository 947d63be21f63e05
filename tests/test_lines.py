"""Points 9, 10 and 13: which lines follow, and which picks they bar."""

import itertools
import random
import unittest

from apart import HUNDRED, first_bad_apart, small_board
from fitboard.errors import BoardError, TwiceThere
from fitboard.lines import bars, first_bad
from fitboard.search import worked_out

LID_SHELF = [("lid", 1, [("rim", 0, 0)]), ("lid", 2, [("pan", 5, 9)])]
LID_START = [("lid", 1, 2)]
LID_LINES = [
    ([("lid", 2)], ("open", ("lid", 2), 0, [])),
    ([("lid", 1)], ("open", ("lid", 1), 0, [])),
    ([], ("open", None, 0, [0, 1])),
]


class FirstBadTest(unittest.TestCase):
    def test_the_example_of_the_document(self):
        self.assertIsNone(first_bad(LID_SHELF, LID_START, LID_LINES))

    def test_no_lines(self):
        self.assertIsNone(first_bad(LID_SHELF, LID_START, []))
        self.assertIsNone(first_bad([], [], []))

    def test_the_first_of_several_is_told(self):
        bad = ([], ("open", None, 1, []))
        self.assertEqual(first_bad(LID_SHELF, LID_START, [bad, bad]), 0)
        self.assertEqual(first_bad(LID_SHELF, LID_START, LID_LINES + [bad]), 3)
        self.assertEqual(first_bad(LID_SHELF, LID_START, LID_LINES[:1] + [bad] + LID_LINES[1:] + [bad]), 1)

    def test_a_place_is_told_as_a_whole_number(self):
        self.assertIs(type(first_bad([], [], [([], ("open", None, 0, []))])), int)

    def test_twice_there(self):
        twice = LID_SHELF + [("lid", 1, [])]
        bad = ([], ("open", None, 7, []))
        for lines in ([], LID_LINES, [bad], [([("none", 3)], ("outside", ("none", 3), 0, ("none", 3)))]):
            with self.assertRaises(BoardError) as caught:
                first_bad(twice, LID_START, lines)
            self.assertIs(type(caught.exception), TwiceThere)


class OutsideTest(unittest.TestCase):
    SHELF = [
        ("lid", 1, [("rim", 5, 5), ("pan", 2, 3), ("lid", 1, 1), ("lid", 2, 9), ("pan", 4, 3)]),
        ("pan", 1, []), ("pan", 2, []), ("pan", 4, [("lid", 0, 0)]), ("", 0, [("", -1, -1)]),
    ]
    START = [("pan", 0, 9), ("pan", 2, 3), ("none", 1, 1), ("lid", 1, 1)]

    def told(self, picks, who, place, pick):
        return first_bad(self.SHELF, self.START, [(picks, ("outside", who, place, pick))])

    def follows(self, picks, who, place, pick):
        self.assertIsNone(self.told(picks, who, place, pick))

    def fails(self, picks, who, place, pick):
        self.assertEqual(self.told(picks, who, place, pick), 0)

    def test_a_need_of_a_pick(self):
        self.follows([("lid", 1), ("pan", 1)], ("lid", 1), 1, ("pan", 1))
        self.follows([("pan", 4), ("lid", 1)], ("lid", 1), 1, ("pan", 4))
        self.follows([("pan", 4), ("lid", 1)], ("pan", 4), 0, ("lid", 1))

    def test_a_need_of_the_start(self):
        self.follows([("pan", 1)], None, 1, ("pan", 1))
        self.follows([("pan", 4)], None, 1, ("pan", 4))

    def test_a_need_of_a_pick_for_its_own_part(self):
        self.follows([("lid", 1)], ("lid", 1), 3, ("lid", 1))
        self.fails([("lid", 1)], ("lid", 1), 2, ("lid", 1))
        self.follows([("", 0)], ("", 0), 0, ("", 0))

    def test_a_need_that_no_version_meets(self):
        self.follows([("lid", 1), ("pan", 2)], ("lid", 1), 4, ("pan", 2))

    def test_more_picks_than_are_needed(self):
        others = [("rim", 1), ("none", -HUNDRED), ("pan", 2), ("pan", 2), ("lid", 7)]
        self.follows(others + [("lid", 1), ("pan", 1)], ("lid", 1), 1, ("pan", 1))
        self.follows([("pan", 1)] + others, None, 1, ("pan", 1))

    def test_a_pick_told_that_is_not_on_the_shelf(self):
        self.follows([("pan", 77)], None, 1, ("pan", 77))
        self.follows([("none", 2)], None, 2, ("none", 2))
        self.follows([("rim", 4), ("lid", 1)], ("lid", 1), 0, ("rim", 4))
        self.fails([("none", 1)], None, 2, ("none", 1))
        self.fails([("pan", 3)], None, 1, ("pan", 3))

    def test_who_is_not_one_of_the_lines_picks(self):
        self.fails([("pan", 1)], ("lid", 1), 1, ("pan", 1))
        self.fails([("pan", 1), ("lid", 2)], ("lid", 1), 1, ("pan", 1))

    def test_who_is_not_on_the_shelf(self):
        self.fails([("rim", 1), ("pan", 1)], ("rim", 1), 0, ("pan", 1))
        self.fails([("lid", 2), ("pan", 1)], ("lid", 2), 1, ("pan", 1))
        self.fails([("none", 1), ("pan", 1)], ("none", 1), 1, ("pan", 1))

    def test_a_place_that_is_negative_or_too_great(self):
        self.follows([("pan", 1)], None, 1, ("pan", 1))
        for place in (-3, -1, -4, 4, 5, HUNDRED, -HUNDRED):
            self.fails([("pan", 1)], None, place, ("pan", 1))
        for place in (-1, -4, -5, 5, HUNDRED):
            self.fails([("lid", 1), ("pan", 1)], ("lid", 1), place, ("pan", 1))
        for place in (-1, 0, 1):
            self.fails([("pan", 1), ("lid", 1)], ("pan", 1), place, ("lid", 1))

    def test_the_last_place(self):
        self.follows([("lid", 3)], None, 3, ("lid", 3))
        self.follows([("lid", 1), ("pan", 4)], ("lid", 1), 4, ("pan", 4))

    def test_a_pick_told_that_is_not_the_lines(self):
        self.fails([("lid", 1)], ("lid", 1), 1, ("pan", 1))
        self.fails([], None, 1, ("pan", 1))
        self.fails([("pan", 4)], None, 1, ("pan", 1))

    def test_a_pick_told_of_another_part(self):
        self.fails([("lid", 1), ("pan", 1)], ("lid", 1), 0, ("pan", 1))
        self.fails([("rim", 7)], None, 1, ("rim", 7))
        self.fails([("lid", 1)], ("lid", 1), 1, ("lid", 1))

    def test_a_pick_told_that_meets_the_need(self):
        self.fails([("pan", 2)], None, 1, ("pan", 2))
        self.fails([("lid", 1), ("pan", 2)], ("lid", 1), 1, ("pan", 2))
        self.fails([("pan", 1)], None, 0, ("pan", 1))

    def test_just_at_the_ends_of_the_range(self):
        for version, told in ((1, None), (2, 0), (3, 0), (4, None)):
            self.assertEqual(self.told([("pan", version)], None, 1, ("pan", version)), told)

    def test_where_the_start_is_empty(self):
        self.assertEqual(first_bad(self.SHELF, [], [([("pan", 1)], ("outside", None, 0, ("pan", 1)))]), 0)
        self.assertEqual(first_bad(self.SHELF, [], [([("pan", 1)], ("outside", None, -1, ("pan", 1)))]), 0)


class OpenTest(unittest.TestCase):
    SHELF = [
        ("lid", 2, [("pan", 1, 3)]), ("lid", 1, [("none", 1, 1), ("pan", 9, 8), ("rim", 2, 9)]), ("lid", 3, []),
        ("pan", 1, [("lid", 9, 9)]), ("pan", 3, [("lid", 9, 9)]), ("pan", 2, [("lid", 9, 9)]), ("pan", 4, []),
        ("rim", 1, []),
    ]
    START = [("lid", 1, 2), ("pan", 1, 3), ("none", 0, 9), ("rim", 1, 1)]
    # The lines at the places 0 to 2 bar the versions 3, 2 and 1 of `pan` beside the version 2 of `lid`.
    AHEAD = [([("pan", version), ("lid", 2)], ("outside", ("pan", version), 0, ("lid", 2))) for version in (3, 2, 1)]

    def told(self, ahead, picks, who, place, below):
        return first_bad(self.SHELF, self.START, ahead + [(picks, ("open", who, place, below))])

    def follows(self, ahead, picks, who, place, below):
        self.assertIsNone(self.told(ahead, picks, who, place, below))

    def fails(self, ahead, picks, who, place, below):
        self.assertEqual(self.told(ahead, picks, who, place, below), len(ahead))

    def test_a_need_of_a_pick_and_one_of_the_start(self):
        self.follows(self.AHEAD, [("lid", 2)], ("lid", 2), 0, [0, 1, 2])
        self.follows(self.AHEAD, [("lid", 2)], None, 1, [0, 1, 2])

    def test_more_picks_than_are_needed(self):
        picks = [("rim", 5), ("lid", 2), ("pan", 1), ("lid", 2), ("", HUNDRED)]
        self.follows(self.AHEAD, picks, ("lid", 2), 0, [0, 1, 2])

    def test_a_place_too_few_or_too_many(self):
        for below in ([], [0], [0, 1], [1, 2], [0, 1, 2, 2], [0, 0, 1, 2], [0, 1, 2, 0], [2, 0, 1, 2]):
            self.fails(self.AHEAD, [("lid", 2)], ("lid", 2), 0, below)

    def test_another_order(self):
        for below in itertools.product(range(3), repeat=3):
            if below != (0, 1, 2):
                self.fails(self.AHEAD, [("lid", 2)], ("lid", 2), 0, list(below))

    def test_the_order_is_that_of_the_versions_not_that_of_the_lines(self):
        self.follows(self.AHEAD[::-1], [("lid", 2)], ("lid", 2), 0, [2, 1, 0])
        self.fails(self.AHEAD[::-1], [("lid", 2)], ("lid", 2), 0, [0, 1, 2])

    def test_a_negative_place(self):
        for below in ([-4, 1, 2], [-4, -3, -2], [0, 1, -2], [-1, 1, 2], [0, -3, 2]):
            self.fails(self.AHEAD, [("lid", 2)], ("lid", 2), 0, below)

    def test_the_lines_own_place(self):
        self.fails(self.AHEAD, [("lid", 2)], ("lid", 2), 0, [0, 1, 3])
        self.fails([], [("rim", 1)], None, 3, [0])
        self.fails([], [], None, 3, [0])

    def test_a_later_place_and_one_beyond_the_end(self):
        line = ([("lid", 2)], ("open", ("lid", 2), 0, [0, 1, 3]))
        lines = self.AHEAD[:2] + [line] + self.AHEAD[2:]
        self.assertEqual(first_bad(self.SHELF, self.START, lines), 2)
        self.fails(self.AHEAD, [("lid", 2)], ("lid", 2), 0, [0, 1, 4])
        self.fails(self.AHEAD, [("lid", 2)], ("lid", 2), 0, [0, 1, HUNDRED])
        self.fails(self.AHEAD, [("lid", 2)], ("lid", 2), 0, [-HUNDRED, 1, 2])

    def test_a_line_below_with_a_pick_that_is_not_the_lines(self):
        self.fails(self.AHEAD, [], None, 1, [0, 1, 2])
        self.fails(self.AHEAD, [("lid", 1)], None, 1, [0, 1, 2])
        self.fails(self.AHEAD, [("pan", 3), ("pan", 2), ("pan", 1)], None, 1, [0, 1, 2])
        more = self.AHEAD[:2] + [([("rim", 1)] + self.AHEAD[2][0], self.AHEAD[2][1])]
        self.fails(more, [("lid", 2)], ("lid", 2), 0, [0, 1, 2])
        self.follows(more, [("lid", 2), ("rim", 1)], ("lid", 2), 0, [0, 1, 2])

    def test_a_line_below_with_another_version_of_the_needs_part(self):
        self.fails(self.AHEAD, [("lid", 2)], ("lid", 2), 0, [0, 1, 1])
        self.follows(self.AHEAD, [("lid", 2), ("pan", 2)], ("lid", 2), 0, [0, 1, 1])
        self.follows(self.AHEAD, [("lid", 2), ("pan", 3)], ("lid", 2), 0, [0, 0, 0])

    def test_a_line_below_with_the_version_of_another_part(self):
        ahead = [([("rim", 3), ("lid", 2), ("pan", 3)], ("outside", ("pan", 3), 0, ("lid", 2)))] + self.AHEAD[1:]
        self.fails(ahead, [("lid", 2)], ("lid", 2), 0, [0, 1, 2])

    def test_a_line_below_without_the_needs_part(self):
        ahead = [([("lid", 1)], ("open", ("lid", 1), 0, []))]
        self.follows(ahead, [("lid", 1)], None, 1, [0, 0, 0])
        self.follows(ahead, [("lid", 1)], None, 3, [0])
        self.fails(ahead, [("lid", 2)], None, 1, [0, 0, 0])

    def test_a_line_below_without_a_pick(self):
        ahead = [([], ("open", None, 2, []))]
        self.follows(ahead, [], None, 1, [0, 0, 0])
        self.follows(ahead, [], None, 0, [0, 0])
        self.follows(ahead, [("none", 4)], None, 3, [0])

    def test_below_is_empty_where_no_version_meets_the_need(self):
        self.follows([], [("lid", 1)], ("lid", 1), 0, [])
        self.follows([], [("lid", 1)], ("lid", 1), 1, [])
        self.follows([], [("lid", 1)], ("lid", 1), 2, [])
        self.follows([], [], None, 2, [])

    def test_below_is_not_empty_where_no_version_meets_the_need(self):
        for place in (0, 1, 2):
            self.fails(self.AHEAD, [("lid", 1), ("lid", 2), ("pan", 3)], ("lid", 1), place, [0])
        self.fails(self.AHEAD, [("lid", 2), ("pan", 3)], None, 2, [0])

    def test_below_is_empty_where_a_version_meets_the_need(self):
        self.fails([], [("lid", 2)], ("lid", 2), 0, [])
        self.fails([], [], None, 3, [])
        self.fails([], [("rim", 1)], None, 3, [])

    def test_only_versions_that_meet_the_need_count(self):
        ahead = [([("lid", 2)], ("open", None, 2, [])), ([("lid", 1)], ("open", None, 2, []))]
        self.follows(ahead, [], None, 0, [0, 1])
        self.fails(ahead, [], None, 0, [0, 0, 1])

    def test_who_is_not_one_of_the_lines_picks(self):
        self.fails([], [], ("lid", 1), 0, [])
        self.fails([], [("lid", 2)], ("lid", 1), 0, [])

    def test_who_is_not_on_the_shelf(self):
        self.fails([], [("none", 1)], ("none", 1), 0, [])
        self.fails([], [("lid", 4)], ("lid", 4), 0, [])
        self.fails([], [("rim", -1)], ("rim", -1), 0, [])

    def test_a_place_of_a_need_that_is_negative_or_too_great(self):
        for place in (-1, -2, 3, HUNDRED, -HUNDRED):
            self.fails([], [("lid", 1)], ("lid", 1), place, [])
        for place in (-2, -4, 4, 7):
            self.fails([], [], None, place, [])
        for place in (-1, 0):
            self.fails([], [("lid", 3)], ("lid", 3), place, [])

    def test_where_the_start_is_empty(self):
        self.assertEqual(first_bad(self.SHELF, [], [([], ("open", None, 0, []))]), 0)
        self.assertEqual(first_bad([], [], [([], ("open", None, -1, []))]), 0)

    def test_a_need_for_whos_own_part(self):
        shelf = [("lid", 1, [("lid", 1, 2)]), ("lid", 2, [("lid", 1, 1)])]
        lines = [
            ([("lid", 2)], ("outside", ("lid", 2), 0, ("lid", 2))),
            ([("lid", 1)], ("open", ("lid", 1), 0, [0, 1])),
        ]
        self.assertEqual(first_bad(shelf, [], lines), 1)
        lines[1] = ([("lid", 1), ("lid", 2)], ("open", ("lid", 1), 0, [0, 0]))
        self.assertIsNone(first_bad(shelf, [], lines))


class ManyLinesTest(unittest.TestCase):
    def ladder(self, count):
        """Lines that each stand on the one ahead of it, the last one without a pick."""
        shelf = [("lid", version, [("pan", 1, 1)]) for version in range(count)]
        lines = [([("lid", version)], ("open", ("lid", version), 0, [])) for version in range(count - 1, -1, -1)]
        lines.append(([], ("open", None, 0, list(range(count)))))
        return shelf, [("lid", 0, count)], lines

    def test_more_than_a_thousand_lines(self):
        for count in (1000, 1200, 3000):
            shelf, start, lines = self.ladder(count)
            self.assertIsNone(first_bad(shelf, start, lines))
            for place in (0, 999, count - 1, count):
                changed = list(lines)
                changed[place] = (changed[place][0], ("open", None, 1, []))
                self.assertEqual(first_bad(shelf, start, changed), place)
            lines[-1] = ([], ("open", None, 0, list(range(1, count))))
            self.assertEqual(first_bad(shelf, start, lines), count)

    def test_twenty_thousand_lines_one_upon_the_other(self):
        shelf = [("lid", 1, [("none", 1, 1)])]
        lines = [([("lid", 1)], ("open", ("lid", 1), 0, []))]
        lines += [([("lid", 1)], ("open", None, 0, [place])) for place in range(20000)]
        self.assertIsNone(first_bad(shelf, [("lid", 0, 9)], lines))
        lines.append(([("lid", 1)], ("open", None, 0, [20001])))
        self.assertEqual(first_bad(shelf, [("lid", 0, 9)], lines), 20001)


class BesideAnotherTest(unittest.TestCase):
    """Lines made by chance, and told lines changed by chance, beside what was written apart."""

    def made(self, chance, shelf, start, lines):
        """A line that mostly follows."""
        by_pick = {None: start, ("none", 1): [("lid", 0, 9)]}
        by_pick.update({(part, version): needs for part, version, needs in shelf})
        who = chance.choice([each for each in by_pick if by_pick[each]] or [None])
        place = chance.randrange(-1, len(by_pick[who]) + 1) if chance.random() < 0.1 else 0
        need = by_pick[who][place] if place in range(len(by_pick[who])) else ("none", 0, 0)
        picks = [] if who is None else [who]
        others = [pick for pick in by_pick if pick is not None and pick[0] == need[0]]
        if others and chance.random() < 0.5:
            pick = chance.choice(others)
            return (picks + [pick], ("outside", who, place, pick))
        met = sorted([pick for pick in others if need[1] <= pick[1] <= need[2]], reverse=True)
        below = []
        for pick in met:
            near = [at for at, line in enumerate(lines) if pick in line[0]] or [chance.randint(-1, len(lines))]
            below.append(chance.choice(near))
            if below[-1] in range(len(lines)):
                picks += [each for each in lines[below[-1]][0] if each != pick]
        return (picks, ("open", who, place, below))

    def changed(self, chance, line):
        """The line with one thing about it changed."""
        picks, reason = list(line[0]), list(line[1])
        what = chance.randint(0, 5)
        if what == 0 and picks:
            picks.pop(chance.randrange(len(picks)))
        elif what == 1:
            reason[2] += chance.choice([-1, 1])
        elif what == 2 and reason[0] == "open" and reason[3]:
            reason[3] = chance.sample(reason[3], len(reason[3]))
        elif what == 3 and reason[0] == "open" and reason[3]:
            at = chance.randrange(len(reason[3]))
            reason[3] = reason[3][:at] + [reason[3][at] + chance.choice([-1, 1])] + reason[3][at + 1:]
        elif what == 4:
            reason[1] = chance.choice([None] + picks)
        else:
            picks = [(part, version + 1) for part, version in picks]
        return (picks, tuple(reason))

    def test_lines_made_by_chance(self):
        seen = {}
        for seed in range(600):
            chance = random.Random(seed)
            shelf, start = small_board(seed)
            lines = []
            for each in range(12):
                line = self.made(chance, shelf, start, lines)
                if chance.random() < 0.3:
                    line = self.changed(chance, line)
                bad = first_bad_apart(shelf, start, lines + [line])
                self.assertEqual(first_bad(shelf, start, lines + [line]), bad, seed)
                kind = (line[1][0], bad is None, line[1][0] == "open" and len(line[1][3]) > 0)
                seen[kind] = seen.get(kind, 0) + 1
                if bad is None:
                    lines.append(line)
        self.assertEqual(len(seen), 6)
        self.assertGreater(min(seen.values()), 50, seen)

    def test_told_lines_changed_by_chance(self):
        seen = {True: 0, False: 0}
        for seed in range(1500):
            chance = random.Random(seed)
            shelf, start = small_board(seed)
            lines = worked_out(shelf, start)[1]
            self.assertIsNone(first_bad(shelf, start, lines), seed)
            for each in range(min(4, len(lines))):
                at = chance.randrange(len(lines))
                changed = lines[:at] + [self.changed(chance, lines[at])] + lines[at + 1:]
                bad = first_bad_apart(shelf, start, changed)
                self.assertEqual(first_bad(shelf, start, changed), bad, seed)
                seen[bad is None] += 1
        self.assertGreater(min(seen.values()), 100, seen)


class BarsTest(unittest.TestCase):
    LINES = [
        ([("lid", 1), ("pan", 2)], ("outside", ("lid", 1), 0, ("pan", 2))),
        ([("rim", 3)], ("open", ("rim", 3), 0, [])),
    ]

    def test_all_picks_of_one_line_are_there(self):
        self.assertIs(bars(self.LINES, [("lid", 1), ("pan", 2)]), True)
        self.assertIs(bars(self.LINES, [("rim", 3)]), True)
        self.assertIs(bars(self.LINES[::-1], [("rim", 3)]), True)

    def test_among_others_and_in_another_order(self):
        for picks in itertools.permutations([("lid", 1), ("pan", 2), ("top", 5), ("", 0)]):
            self.assertIs(bars(self.LINES, list(picks)), True)

    def test_only_some_picks_of_a_line_are_there(self):
        self.assertIs(bars(self.LINES, [("lid", 1)]), False)
        self.assertIs(bars(self.LINES, [("pan", 2)]), False)
        self.assertIs(bars(self.LINES, [("pan", 2), ("top", 1)]), False)

    def test_some_picks_of_each_of_several_lines_are_there(self):
        lines = self.LINES[:1] + [([("lid", 2), ("pan", 3)], ("open", None, 0, []))]
        self.assertIs(bars(lines, [("lid", 1), ("pan", 3)]), False)

    def test_other_versions_and_other_parts(self):
        self.assertIs(bars(self.LINES, [("lid", 2), ("pan", 1), ("rim", 4), ("rims", 3), ("", 3)]), False)

    def test_a_line_without_a_pick_bars_everything(self):
        lines = self.LINES + [([], ("open", None, 0, []))]
        self.assertIs(bars(lines, []), True)
        self.assertIs(bars(lines, [("top", 5)]), True)
        self.assertIs(bars(lines[::-1], [("top", 5)]), True)

    def test_no_lines_bar_nothing(self):
        self.assertIs(bars([], []), False)
        self.assertIs(bars([], [("lid", 1)]), False)

    def test_no_picks_are_barred_by_no_line_that_has_one(self):
        self.assertIs(bars(self.LINES, []), False)

    def test_nothing_is_refused(self):
        self.assertIs(bars(self.LINES, [("none", 1), ("none", 2), ("none", 2)]), False)
        self.assertIs(bars(self.LINES, [("rim", 4), ("rim", 3), ("rim", 3)]), True)
        senseless = [([("a", 1), ("a", 1), ("a", 2)], ("open", ("x", 9), -7, [-1, HUNDRED]))]
        self.assertIs(bars(senseless, [("a", 2), ("a", 1)]), True)
        self.assertIs(bars(senseless, [("a", 1), ("a", 1), ("a", 3)]), False)

    def test_the_reason_does_not_matter(self):
        for reason in (("open", None, 0, []), ("outside", None, 5, ("lid", 1)), ("open", ("pan", 2), 1, [0, 3])):
            self.assertIs(bars([([("lid", 1)], reason)], [("lid", 1)]), True)
            self.assertIs(bars([([("lid", 1)], reason)], [("pan", 2)]), False)

    def test_versions_of_a_hundred_figures(self):
        lines = [([("lid", HUNDRED)], ("open", None, 0, []))]
        self.assertIs(bars(lines, [("lid", HUNDRED)]), True)
        self.assertIs(bars(lines, [("lid", HUNDRED - 1)]), False)
        self.assertIs(bars(lines, [("lid", -HUNDRED)]), False)

    def test_many_lines_and_many_picks(self):
        lines = [([("lid", each), ("pan", each)], ("open", None, 0, [])) for each in range(20000)]
        self.assertIs(bars(lines, [("lid", each) for each in range(1000)]), False)
        self.assertIs(bars(lines, [("lid", 19999), ("pan", 0), ("pan", 19999)]), True)


if __name__ == "__main__":
    unittest.main()
