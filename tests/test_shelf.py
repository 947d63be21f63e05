"""Points 1 to 3 as far as `fitting` goes: shelves, needs, and the refusal of a shelf."""

import copy
import inspect
import itertools
import unittest

from fitboard.errors import BoardError, NoEntry, TwiceThere, TwoVersions
from fitboard.shelf import fitting

HUNDRED = 10 ** 100 - 1


def versions_of(part, versions):
    return [(part, version, []) for version in versions]


class FittingTest(unittest.TestCase):
    def test_the_arguments_are_called_as_in_the_interface(self):
        self.assertEqual(list(inspect.signature(fitting).parameters), ["shelf", "need"])
        self.assertEqual(fitting(shelf=[("lid", 1, [])], need=("lid", 1, 1)), [1])

    def test_only_versions_in_the_range_are_told_the_newest_first(self):
        shelf = versions_of("lid", [1, 2, 3, 4, 5, 6])
        self.assertEqual(fitting(shelf, ("lid", 2, 5)), [5, 4, 3, 2])

    def test_the_order_on_the_shelf_does_not_matter(self):
        for order in itertools.permutations([1, 2, 9, 10, 30]):
            self.assertEqual(fitting(versions_of("lid", order), ("lid", 2, 10)), [10, 9, 2])

    def test_versions_are_ordered_as_numbers(self):
        shelf = versions_of("lid", [9, 10, 100, 20, 3])
        self.assertEqual(fitting(shelf, ("lid", 0, 1000)), [100, 20, 10, 9, 3])

    def test_only_the_needs_part_counts(self):
        shelf = [
            ("pan", 4, []), ("lid", 2, [("pan", 1, 9)]), ("rim", 3, []),
            ("lid", 7, []), ("pan", 2, [("lid", 0, 9)]), ("lid", 5, []), ("pan", 5, []),
        ]
        self.assertEqual(fitting(shelf, ("lid", 0, 6)), [5, 2])
        self.assertEqual(fitting(shelf, ("pan", 0, 6)), [5, 4, 2])
        self.assertEqual(fitting(shelf, ("rim", 0, 6)), [3])

    def test_a_list_of_whole_numbers_is_told(self):
        told = fitting(versions_of("lid", [1, 2]), ("lid", 1, 2))
        self.assertIs(type(told), list)
        self.assertEqual([type(version) for version in told], [int, int])

    def test_the_same_is_told_each_time_and_as_a_list_of_its_own(self):
        shelf = versions_of("lid", [1, 2])
        told = fitting(shelf, ("lid", 1, 2))
        told.append(3)
        self.assertEqual(fitting(shelf, ("lid", 1, 2)), [2, 1])


class EdgesTest(unittest.TestCase):
    def test_just_at_low_and_one_less_and_one_more(self):
        for version, told in ((2, []), (3, [3]), (4, [4])):
            self.assertEqual(fitting([("lid", version, [])], ("lid", 3, 7)), told)

    def test_just_at_high_and_one_less_and_one_more(self):
        for version, told in ((6, [6]), (7, [7]), (8, [])):
            self.assertEqual(fitting([("lid", version, [])], ("lid", 3, 7)), told)

    def test_low_equal_to_high(self):
        self.assertEqual(fitting(versions_of("lid", [3, 4, 5]), ("lid", 4, 4)), [4])
        self.assertEqual(fitting(versions_of("lid", [3, 5]), ("lid", 4, 4)), [])

    def test_low_greater_than_high_is_met_by_none(self):
        shelf = versions_of("lid", [-1, 0, 1, 2, 3, 4, 5, 6])
        for low, high in ((5, 4), (5, 1), (1, 0), (0, -1), (HUNDRED, -HUNDRED)):
            self.assertEqual(fitting(shelf, ("lid", low, high)), [])

    def test_nought_and_negative_versions(self):
        shelf = versions_of("lid", [-10, 0, -2, 1, -1, -9])
        self.assertEqual(fitting(shelf, ("lid", -9, 0)), [0, -1, -2, -9])
        self.assertEqual(fitting(shelf, ("lid", 0, 0)), [0])
        self.assertEqual(fitting(shelf, ("lid", -2, -2)), [-2])
        self.assertEqual(fitting(shelf, ("lid", -20, -3)), [-9, -10])

    def test_versions_of_a_hundred_figures(self):
        shelf = versions_of("lid", [HUNDRED - 1, -HUNDRED, 0, HUNDRED, 1 - HUNDRED, HUNDRED - 2])
        self.assertEqual(fitting(shelf, ("lid", HUNDRED - 1, HUNDRED)), [HUNDRED, HUNDRED - 1])
        self.assertEqual(fitting(shelf, ("lid", HUNDRED, HUNDRED)), [HUNDRED])
        self.assertEqual(fitting(shelf, ("lid", -HUNDRED, -HUNDRED)), [-HUNDRED])
        self.assertEqual(
            fitting(shelf, ("lid", -HUNDRED, HUNDRED)),
            [HUNDRED, HUNDRED - 1, HUNDRED - 2, 0, 1 - HUNDRED, -HUNDRED],
        )

    def test_a_part_that_is_the_empty_text(self):
        shelf = [("", 1, []), ("lid", 2, []), ("", 3, []), (" ", 4, [])]
        self.assertEqual(fitting(shelf, ("", 0, 9)), [3, 1])
        self.assertEqual(fitting(shelf, ("lid", 0, 9)), [2])
        self.assertEqual(fitting([("lid", 2, [])], ("", 0, 9)), [])

    def test_a_part_name_that_begins_like_another(self):
        shelf = [("lid", 1, []), ("lids", 2, []), ("li", 3, []), ("lid ", 4, []), ("Lid", 5, []), ("alid", 6, [])]
        for part, version, needs in shelf:
            self.assertEqual(fitting(shelf, (part, 0, 9)), [version])

    def test_part_names_of_any_signs(self):
        shelf = [("\u00e9", 1, []), ("e\u0301", 2, []), ("a\nb", 3, []), ("a\0", 4, []), ("\ud800", 5, [])]
        for part, version, needs in shelf:
            self.assertEqual(fitting(shelf, (part, 0, 9)), [version])

    def test_a_part_that_is_not_on_the_shelf(self):
        self.assertEqual(fitting(versions_of("lid", [1, 2]), ("pan", 0, 9)), [])

    def test_a_part_that_is_only_needed_is_not_on_the_shelf(self):
        self.assertEqual(fitting([("lid", 1, [("pan", 2, 2)])], ("pan", 0, 9)), [])

    def test_an_empty_shelf(self):
        self.assertEqual(fitting([], ("lid", 0, 9)), [])
        self.assertEqual(fitting([], ("", 9, 0)), [])

    def test_needs_that_stand_twice_or_name_the_part_itself(self):
        shelf = [
            ("lid", 1, [("pan", 1, 2), ("pan", 1, 2)]),
            ("lid", 2, [("lid", 2, 2)]),
            ("lid", 3, [("lid", 5, 5), ("lid", 5, 5)]),
            ("lid", 4, [("pan", 2, 1)]),
        ]
        self.assertEqual(fitting(shelf, ("lid", 0, 9)), [4, 3, 2, 1])

    def test_an_entrys_own_needs_do_not_keep_it_back(self):
        self.assertEqual(fitting([("lid", 1, [("lid", 2, 2), ("rim", 0, 0)])], ("lid", 1, 1)), [1])


class BoundsTest(unittest.TestCase):
    """Nothing is refused at the bounds of point 1, or somewhat beyond them."""

    def test_a_thousand_entries_and_somewhat_more(self):
        for count in (1000, 1200):
            shelf = versions_of("lid", range(count))
            self.assertEqual(fitting(shelf, ("lid", 1, count - 2)), list(range(count - 2, 0, -1)))

    def test_a_hundred_parts_and_somewhat_more(self):
        for count in (100, 120):
            shelf = [(f"part{each}", version, []) for version in (1, 3, 2) for each in range(count)]
            for each in range(count):
                self.assertEqual(fitting(shelf, (f"part{each}", 2, 3)), [3, 2])

    def test_a_thousand_needs_and_somewhat_more(self):
        for count in (1000, 1200):
            shelf = [("lid", 1, [("pan", 0, each) for each in range(count)])]
            self.assertEqual(fitting(shelf, ("lid", 1, 1)), [1])

    def test_somewhat_more_than_a_hundred_figures(self):
        big = 10 ** 130
        shelf = versions_of("lid", [-big, big, big + 1])
        self.assertEqual(fitting(shelf, ("lid", -big, big)), [big, -big])
        self.assertEqual(fitting(shelf, ("lid", big + 1, big + 1)), [big + 1])


class TwiceThereTest(unittest.TestCase):
    def refused(self, shelf, need):
        with self.assertRaises(BoardError) as caught:
            fitting(shelf, need)
        self.assertIs(type(caught.exception), TwiceThere)
        self.assertNotIsInstance(caught.exception, (NoEntry, TwoVersions))

    def test_one_version_of_a_part_twice(self):
        self.refused([("lid", 1, []), ("lid", 1, [])], ("lid", 0, 9))

    def test_one_version_of_a_part_three_times(self):
        self.refused([("lid", 1, [])] * 3, ("lid", 0, 9))

    def test_where_the_part_is_not_the_needs_part(self):
        self.refused([("pan", 1, []), ("pan", 1, []), ("lid", 1, [])], ("lid", 0, 9))
        self.refused([("pan", 1, []), ("pan", 1, [])], ("lid", 0, 9))

    def test_where_the_version_does_not_lie_in_the_range(self):
        for version in (-1, 10):
            self.refused([("lid", version, []), ("lid", version, []), ("lid", 5, [])], ("lid", 0, 9))

    def test_where_no_version_meets_the_need(self):
        self.refused([("lid", 1, []), ("lid", 1, [])], ("lid", 9, 0))

    def test_where_the_two_entries_have_other_needs(self):
        self.refused([("lid", 1, [("pan", 1, 1)]), ("lid", 1, [("rim", 1, 1)])], ("lid", 0, 9))
        self.refused([("lid", 1, []), ("lid", 1, [("rim", 1, 1)])], ("lid", 0, 9))

    def test_where_they_do_not_stand_side_by_side(self):
        shelf = [("lid", 1, []), ("pan", 1, []), ("lid", 2, []), ("lid", 1, []), ("rim", 1, [])]
        self.refused(shelf, ("lid", 0, 9))
        self.refused(shelf, ("rim", 2, 2))

    def test_where_they_stand_at_the_ends_of_a_long_shelf(self):
        self.refused(versions_of("lid", range(999)) + [("lid", 0, [])], ("lid", 5, 5))

    def test_where_the_part_is_the_empty_text_or_the_version_nought_or_negative(self):
        self.refused([("", 1, []), ("", 1, [])], ("lid", 0, 9))
        self.refused([("lid", 0, []), ("lid", 0, [])], ("lid", 0, 9))
        self.refused([("lid", -1, []), ("lid", -1, [])], ("lid", 0, 9))

    def test_where_the_version_has_a_hundred_figures_or_many_more(self):
        for version in (HUNDRED, -HUNDRED, 10 ** 130, 10 ** 5000):
            self.refused([("lid", version, []), ("lid", int(version), [])], ("lid", 0, 9))

    def test_the_same_version_of_two_parts_is_not_refused(self):
        shelf = [("lid", 1, []), ("pan", 1, []), ("", 1, []), ("lids", 1, [])]
        self.assertEqual(fitting(shelf, ("lid", 0, 9)), [1])

    def test_two_versions_of_one_part_are_not_refused(self):
        shelf = [("lid", 1, [("pan", 1, 1)]), ("lid", -1, [("pan", 1, 1)]), ("lid", 2, [("pan", 1, 1)])]
        self.assertEqual(fitting(shelf, ("lid", -9, 9)), [2, 1, -1])

    def test_a_part_and_version_that_read_alike_run_together_are_not_refused(self):
        self.assertEqual(fitting([("lid1", 1, []), ("lid", 11, [])], ("lid", 0, 99)), [11])

    def test_near_versions_of_a_hundred_figures_are_not_refused(self):
        shelf = versions_of("lid", [HUNDRED, HUNDRED - 1, -HUNDRED])
        self.assertEqual(fitting(shelf, ("lid", 0, HUNDRED)), [HUNDRED, HUNDRED - 1])


class NothingChangedTest(unittest.TestCase):
    def kept(self, shelf, need, refused):
        before = copy.deepcopy((shelf, need))
        entries = list(shelf)
        lists = [entry[2] for entry in shelf]
        if refused:
            with self.assertRaises(TwiceThere):
                fitting(shelf, need)
        else:
            fitting(shelf, need)
        self.assertEqual((shelf, need), before)
        for place, entry in enumerate(shelf):
            self.assertIs(entry, entries[place])
            self.assertIs(entry[2], lists[place])

    def test_a_shelf_and_a_need_stay_as_they_were(self):
        needs = [("rim", 2, 1), ("lid", 1, 1), ("rim", 2, 1)]
        shelf = [("lid", 2, needs), ("pan", 5, []), ("lid", 9, needs), ("lid", 1, [("pan", 1, 1)])]
        self.kept(shelf, ("lid", 0, 5), False)
        self.kept(shelf, ("lid", 5, 0), False)
        self.kept(shelf, ("lot", 0, 5), False)
        self.kept([], ("lid", 0, 5), False)

    def test_a_refused_shelf_and_a_need_stay_as_they_were(self):
        needs = [("rim", 2, 1), ("lid", 1, 1), ("rim", 2, 1)]
        shelf = [("pan", 5, needs), ("lid", 2, needs), ("pan", 1, []), ("lid", 3, []), ("lid", 2, [("pan", 1, 1)])]
        self.kept(shelf, ("lid", 0, 5), True)
        self.kept(shelf, ("pan", 5, 0), True)


if __name__ == "__main__":
    unittest.main()
