"""Points 11 and 12: the choice that is told, and the lines beside it."""

import random
import unittest

from apart import (
    HUNDRED, choices, first_bad_apart, first_named, fits_apart, missing_line, newness, small_board,
)
from fitboard.errors import BoardError, TwiceThere
from fitboard.lines import bars, first_bad
from fitboard.needs import fits
from fitboard.search import worked_out


class ToldTest(unittest.TestCase):
    """What a test of this file asks of each answer, by checks written apart from the program."""

    def sound(self, shelf, start):
        """The choice told, after a look at its form, at the lines, and at the choice as far as the lines show it."""
        told = worked_out(shelf, start)
        self.assertIs(type(told), tuple)
        self.assertEqual(len(told), 2)
        choice, lines = told
        self.form_of_lines(lines)
        self.assertIsNone(first_bad_apart(shelf, start, lines))
        self.assertIsNone(first_bad(shelf, start, lines))
        if choice is None:
            self.assertEqual(lines[-1][0], [])
            self.assertTrue(bars(lines, []))
        else:
            self.form_of_picks(choice)
            self.assertEqual(choice, sorted(choice))
            self.assertTrue(fits_apart(shelf, start, choice))
            self.assertIs(fits(shelf, start, choice), True)
            self.assertIs(bars(lines, choice), False)
            self.assertIsNone(missing_line(shelf, start, choice, lines))
        return choice

    def form_of_picks(self, picks):
        self.assertIs(type(picks), list)
        for pick in picks:
            self.assertEqual([type(pick), type(pick[0]), type(pick[1]), len(pick)], [tuple, str, int, 2])

    def form_of_lines(self, lines):
        self.assertIs(type(lines), list)
        for line in lines:
            self.assertEqual([type(line), len(line)], [tuple, 2])
            picks, reason = line
            self.form_of_picks(picks)
            self.assertEqual([type(reason), len(reason), type(reason[2])], [tuple, 4, int])
            if reason[1] is not None:
                self.form_of_picks([reason[1]])
            if reason[0] == "outside":
                self.form_of_picks([reason[3]])
            else:
                self.assertEqual([reason[0], type(reason[3])], ["open", list])
                self.assertTrue(all(type(below) is int for below in reason[3]))

    def beside_all(self, shelf, start):
        """The choice told, after a look at all choices there are."""
        choice = self.sound(shelf, start)
        every = choices(shelf, start)
        if choice is None:
            self.assertEqual(every, [])
        else:
            self.assertEqual(newness(start, choice), max(newness(start, each) for each in every))
        return choice


class SmallTest(ToldTest):
    def test_the_example_of_point_10(self):
        shelf = [("lid", 1, [("rim", 0, 0)]), ("lid", 2, [("pan", 5, 9)])]
        self.assertIsNone(self.beside_all(shelf, [("lid", 1, 2)]))

    def test_an_empty_start(self):
        for shelf in ([], [("lid", 1, [("none", 1, 1)])], [("lid", 1, [("lid", 1, 1)])]):
            self.assertEqual(self.beside_all(shelf, []), [])

    def test_an_empty_shelf(self):
        self.assertIsNone(self.beside_all([], [("lid", 1, 1)]))
        self.assertIsNone(self.beside_all([], [("", 5, 1), ("lid", 0, 0)]))

    def test_a_part_that_is_not_on_the_shelf(self):
        shelf = [("lid", 1, []), ("lid", 2, [("none", 1, 1)])]
        self.assertIsNone(self.beside_all(shelf, [("none", 0, 9)]))
        self.assertIsNone(self.beside_all(shelf, [("lid", 1, 2), ("none", 0, 9)]))
        self.assertIsNone(self.beside_all(shelf, [("none", 0, 9), ("lid", 1, 2)]))
        self.assertEqual(self.beside_all(shelf, [("lid", 1, 2)]), [("lid", 1)])

    def test_the_newest_that_meets_the_need(self):
        shelf = [("lid", version, []) for version in (9, 10, 2, 33, 5)]
        self.assertEqual(self.beside_all(shelf, [("lid", 0, 40)]), [("lid", 33)])
        self.assertEqual(self.beside_all(shelf, [("lid", 0, 32)]), [("lid", 10)])
        self.assertEqual(self.beside_all(shelf, [("lid", 2, 5)]), [("lid", 5)])
        self.assertEqual(self.beside_all(shelf, [("lid", 2, 4)]), [("lid", 2)])
        self.assertIsNone(self.beside_all(shelf, [("lid", 6, 8)]))
        self.assertIsNone(self.beside_all(shelf, [("lid", 9, 8)]))

    def test_what_is_needed_in_turn_is_picked_too(self):
        shelf = [("lid", 1, [("pan", 1, 2)]), ("pan", 2, [("rim", 5, 5)]), ("rim", 5, []), ("top", 1, [])]
        self.assertEqual(self.beside_all(shelf, [("lid", 1, 1)]), [("lid", 1), ("pan", 2), ("rim", 5)])

    def test_the_choice_is_in_the_order_of_tuples(self):
        shelf = [(part, 1, []) for part in ("b", "a", "B", "", "aa", "10", "9")]
        start = [(part, 1, 1) for part in ("b", "a", "B", "", "aa", "10", "9")]
        told = [("", 1), ("10", 1), ("9", 1), ("B", 1), ("a", 1), ("aa", 1), ("b", 1)]
        self.assertEqual(self.beside_all(shelf, start), told)

    def test_a_need_of_a_need_keeps_a_newer_version_back(self):
        shelf = [
            ("lid", 3, [("pan", 1, 9)]), ("lid", 2, []), ("lid", 1, []),
            ("pan", 1, [("rim", 1, 9)]), ("pan", 2, [("rim", 1, 9)]), ("rim", 1, [("lid", 1, 2)]),
        ]
        self.assertEqual(self.beside_all(shelf, [("lid", 1, 9)]), [("lid", 2)])
        self.assertIsNone(self.beside_all(shelf, [("lid", 3, 9)]))

    def test_the_first_need_goes_ahead_of_the_second(self):
        shelf = [("lid", 1, []), ("lid", 2, [("pan", 1, 1)]), ("pan", 1, []), ("pan", 2, [])]
        self.assertEqual(self.beside_all(shelf, [("lid", 1, 2), ("pan", 1, 2)]), [("lid", 2), ("pan", 1)])
        self.assertEqual(self.beside_all(shelf, [("pan", 1, 2), ("lid", 1, 2)]), [("lid", 1), ("pan", 2)])

    def test_the_start_goes_ahead_of_what_it_does_not_name(self):
        shelf = [
            ("lid", 1, [("rim", 2, 2)]), ("lid", 2, [("rim", 1, 1)]), ("lid", 3, [("rim", 1, 2)]),
            ("pan", 1, [("rim", 1, 1)]), ("pan", 2, [("rim", 2, 2)]), ("rim", 1, []), ("rim", 2, []),
        ]
        told = [("lid", 3), ("pan", 2), ("rim", 2)]
        self.assertEqual(self.beside_all(shelf, [("lid", 1, 3), ("pan", 1, 2)]), told)
        self.assertEqual(self.beside_all(shelf, [("lid", 1, 2), ("pan", 1, 2)]), [("lid", 2), ("pan", 1), ("rim", 1)])

    def test_a_start_that_names_a_part_twice(self):
        shelf = [("lid", version, []) for version in (1, 2, 3, 4, 5)] + [("pan", 1, []), ("pan", 2, [("lid", 2, 2)])]
        self.assertEqual(self.beside_all(shelf, [("lid", 1, 4), ("lid", 2, 5)]), [("lid", 4)])
        self.assertEqual(self.beside_all(shelf, [("lid", 2, 5), ("lid", 1, 3)]), [("lid", 3)])
        self.assertEqual(self.beside_all(shelf, [("lid", 1, 5), ("lid", 1, 5)]), [("lid", 5)])
        self.assertIsNone(self.beside_all(shelf, [("lid", 1, 2), ("lid", 3, 5)]))
        start = [("lid", 1, 9), ("pan", 1, 2), ("lid", 1, 2), ("pan", 0, 5)]
        self.assertEqual(self.beside_all(shelf, start), [("lid", 2), ("pan", 2)])

    def test_a_newer_version_that_only_a_later_need_of_the_start_shuts_out_has_its_line(self):
        shelf = [("lid", 1, []), ("lid", 2, []), ("lid", 3, [])]
        choice, lines = worked_out(shelf, [("lid", 1, 3), ("lid", 1, 1)])
        self.assertEqual(choice, [("lid", 1)])
        for version in (2, 3):
            self.assertIn([("lid", version)], [picks for picks, reason in lines])

    def test_a_line_for_each_newer_version_of_each_part_of_the_start(self):
        shelf = [
            ("lid", 1, []), ("lid", 2, [("none", 1, 1)]), ("lid", 3, [("lid", 1, 1)]), ("lid", 4, [("pan", 7, 7)]),
            ("pan", 1, []), ("pan", 2, [("lid", 2, 9)]), ("pan", 3, [("rim", 2, 2)]), ("rim", 2, [("lid", 4, 4)]),
        ]
        start = [("lid", 1, 9), ("pan", 1, 9)]
        choice, lines = worked_out(shelf, start)
        self.assertEqual(self.beside_all(shelf, start), [("lid", 1), ("pan", 1)])
        lists = [set(picks) for picks, reason in lines]
        for version in (2, 3, 4):
            self.assertTrue(any(each <= {("lid", version)} for each in lists), version)
        for version in (2, 3):
            self.assertTrue(any(each <= {("lid", 1), ("pan", version)} for each in lists), version)

    def test_parts_that_need_themselves(self):
        shelf = [("lid", 1, [("lid", 1, 1)]), ("lid", 2, [("lid", 1, 1)]), ("lid", 3, [("lid", 4, 4), ("lid", 3, 3)])]
        self.assertEqual(self.beside_all(shelf, [("lid", 0, 9)]), [("lid", 1)])
        self.assertIsNone(self.beside_all(shelf[1:], [("lid", 0, 9)]))

    def test_parts_that_need_one_another(self):
        shelf = [
            ("lid", 1, [("pan", 1, 1)]), ("lid", 2, [("pan", 2, 2)]), ("lid", 3, [("pan", 1, 2)]),
            ("pan", 1, [("lid", 1, 1)]), ("pan", 2, [("lid", 1, 2)]),
        ]
        self.assertEqual(self.beside_all(shelf, [("lid", 0, 9)]), [("lid", 2), ("pan", 2)])
        self.assertEqual(self.beside_all(shelf, [("pan", 0, 1)]), [("lid", 1), ("pan", 1)])
        self.assertIsNone(self.beside_all(shelf, [("lid", 3, 3)]))

    def test_a_ring_that_is_not_needed_is_not_picked(self):
        shelf = [("lid", 1, [("pan", 1, 1)]), ("pan", 1, [("lid", 1, 1)]), ("rim", 1, [])]
        self.assertEqual(self.beside_all(shelf, [("rim", 1, 1)]), [("rim", 1)])

    def test_a_pick_that_was_needed_only_for_what_was_taken_back_is_not_there(self):
        shelf = [
            ("lid", 2, [("pan", 1, 1), ("rim", 1, 1)]), ("lid", 1, []),
            ("pan", 1, []), ("rim", 1, [("top", 1, 1)]), ("top", 1, [("pan", 2, 2)]),
        ]
        self.assertEqual(self.beside_all(shelf, [("lid", 1, 2)]), [("lid", 1)])

    def test_needs_that_stand_twice(self):
        shelf = [("lid", 1, [("pan", 1, 3), ("pan", 1, 3), ("pan", 2, 5), ("pan", 2, 5)])]
        shelf += [("pan", version, []) for version in (1, 2, 3, 4)]
        self.assertEqual(self.beside_all(shelf, [("lid", 1, 1)]), [("lid", 1), ("pan", 3)])
        self.assertIsNone(self.beside_all(shelf[:2], [("lid", 1, 1)]))

    def test_nought_and_negative_versions(self):
        shelf = [("lid", version, [("pan", -version, 0)]) for version in (-3, -1, 0, 2)]
        shelf += [("pan", version, []) for version in (-2, -1)]
        self.assertEqual(self.beside_all(shelf, [("lid", -9, 9)]), [("lid", 2), ("pan", -1)])
        self.assertIsNone(self.beside_all(shelf, [("lid", -9, 1)]))
        self.assertEqual(self.beside_all([("lid", 0, []), ("lid", -1, [])], [("lid", -1, 0)]), [("lid", 0)])
        self.assertEqual(self.beside_all([("lid", -2, []), ("lid", -1, [])], [("lid", -9, 0)]), [("lid", -1)])

    def test_versions_of_a_hundred_figures_and_somewhat_more(self):
        for big in (HUNDRED, 10 ** 130):
            shelf = [("lid", big, [("pan", 1 - big, big)]), ("lid", big - 1, []), ("pan", -big, []), ("lid", 0, [])]
            self.assertEqual(self.beside_all(shelf, [("lid", -big, big)]), [("lid", big - 1)])
            shelf.append(("pan", 1 - big, []))
            self.assertEqual(self.beside_all(shelf, [("lid", -big, big)]), [("lid", big), ("pan", 1 - big)])

    def test_the_empty_text_as_a_part(self):
        shelf = [("", 1, []), ("", 2, [("lid", 5, 5)]), ("lid", 4, [("", 1, 1)])]
        self.assertEqual(self.beside_all(shelf, [("", 0, 9)]), [("", 1)])
        self.assertEqual(self.beside_all(shelf, [("lid", 0, 9)]), [("", 1), ("lid", 4)])
        self.assertIsNone(self.beside_all(shelf, [("", 2, 2)]))

    def test_part_names_of_any_signs(self):
        shelf = [("\u00e9", 1, [("e\u0301", 1, 1)]), ("e\u0301", 1, [("a\nb", 0, 9)]), ("a\nb", 3, [("\ud800", 1, 1)])]
        shelf.append(("\ud800", 1, []))
        told = [("a\nb", 3), ("e\u0301", 1), ("\u00e9", 1), ("\ud800", 1)]
        self.assertEqual(self.beside_all(shelf, [("\u00e9", 1, 1)]), told)

    def test_a_shelf_in_any_order_gives_as_new_a_choice(self):
        chance = random.Random(7)
        for seed in range(60):
            shelf, start = small_board(seed)
            choice = self.beside_all(shelf, start)
            mixed = self.beside_all(chance.sample(shelf, len(shelf)), start)
            self.assertEqual(choice is None, mixed is None)
            if choice is not None:
                self.assertEqual(newness(start, choice), newness(start, mixed))


class TwiceThereTest(unittest.TestCase):
    def test_a_version_that_stands_twice(self):
        shelf = [("lid", 1, []), ("pan", 1, []), ("lid", 1, [("pan", 1, 1)])]
        for start in ([], [("lid", 1, 1)], [("pan", 1, 1)], [("none", 1, 1)], [("lid", 2, 1)]):
            with self.assertRaises(BoardError) as caught:
                worked_out(shelf, start)
            self.assertIs(type(caught.exception), TwiceThere)


class ManyBoardsTest(ToldTest):
    def test_beside_a_search_of_all_choices(self):
        seen = {"none": 0, "newest": 0, "older": 0, "more parts": 0, "twice named": 0}
        for seed in range(1600):
            shelf, start = small_board(seed)
            with self.subTest(seed=seed):
                choice = self.beside_all(shelf, start)
            seen["twice named"] += len(first_named(start)) < len(start)
            if choice is None:
                seen["none"] += 1
            elif start:
                best = [max(v for p, v, n in shelf if p == need[0]) for need in first_named(start)]
                seen["newest" if newness(start, choice) == best else "older"] += 1
                seen["more parts"] += len(choice) > len(first_named(start))
        self.assertGreater(min(seen.values()), 100, seen)

    def test_beside_a_search_of_all_choices_where_much_has_to_be_taken_back(self):
        seen = {"none": 0, "older": 0, "newest": 0}
        for seed in range(300):
            chance = random.Random(seed)
            parts = ["a", "b", "c", "d", "e"]
            shelf = []
            for part in parts:
                for version in (1, 2, 3):
                    others = chance.sample([each for each in parts if each != part], chance.randint(0, 2))
                    needs = [(other,) + chance.choice([(1, 1), (1, 2), (2, 3), (3, 3), (2, 2)]) for other in others]
                    shelf.append((part, version, needs))
            start = [(part, 1, 3) for part in chance.sample(parts, chance.randint(2, 5))]
            with self.subTest(seed=seed):
                choice = self.beside_all(shelf, start)
            if choice is None:
                seen["none"] += 1
            else:
                seen["newest" if set(newness(start, choice)) == {3} else "older"] += 1
        self.assertGreater(min(seen.values()), 10, seen)

    def test_larger_boards_by_what_the_lines_show(self):
        seen = {"none": 0, "some": 0}
        for seed in range(120):
            chance = random.Random(seed)
            parts = [f"part{each}" for each in range(chance.choice([10, 20, 40]))]
            most = chance.choice([2, 3, 4])
            width = chance.choice([1, 2, 3])
            shelf = []
            for part in parts:
                for version in range(6):
                    needs = []
                    for each in range(chance.randint(chance.choice([0, 1]), most)):
                        low = chance.randint(0, 5)
                        needs.append((chance.choice(parts), low, low + chance.randint(0, width)))
                    shelf.append((part, version, needs))
            start = [(part, 0, 5) for part in chance.sample(parts, chance.randint(1, len(parts)))]
            with self.subTest(seed=seed):
                choice = self.sound(shelf, start)
            seen["none" if choice is None else "some"] += 1
        self.assertGreater(min(seen.values()), 10, seen)


if __name__ == "__main__":
    unittest.main()
