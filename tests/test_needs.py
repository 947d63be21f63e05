"""Points 4 to 8: picks, the order of needs, which clash and which are open, and which picks fit."""

import itertools
import random
import unittest

from apart import HUNDRED, clash_apart, fits_apart, open_apart, small_board, some_picks
from fitboard.errors import BoardError, NoEntry, TwiceThere, TwoVersions
from fitboard.needs import first_clash, first_open, fits

FUNCTIONS = (first_clash, first_open, fits)


class RefusalTest(unittest.TestCase):
    def refused(self, kind, shelf, start, picks):
        for function in FUNCTIONS:
            with self.assertRaises(BoardError) as caught:
                function(shelf, start, picks)
            self.assertIs(type(caught.exception), kind, function)

    def test_a_pick_whose_part_is_not_on_the_shelf(self):
        self.refused(NoEntry, [("lid", 1, [])], [], [("pan", 1)])
        self.refused(NoEntry, [], [], [("pan", 1)])
        self.refused(NoEntry, [("lid", 1, [])], [("lid", 1, 1)], [("lid", 1), ("", 1)])

    def test_a_part_that_is_only_needed_is_not_on_the_shelf(self):
        self.refused(NoEntry, [("lid", 1, [("pan", 1, 1)])], [("pan", 1, 1)], [("pan", 1)])

    def test_a_part_that_is_on_the_shelf_in_other_versions_only(self):
        self.refused(NoEntry, [("lid", 1, []), ("lid", 3, []), ("pan", 2, [])], [("lid", 0, 9)], [("lid", 2)])
        self.refused(NoEntry, [("lid", 1, [])], [], [("lid", -1)])
        self.refused(NoEntry, [("lid", HUNDRED, [])], [], [("lid", HUNDRED - 1)])

    def test_where_the_pick_that_is_not_there_stands_first_between_or_last(self):
        shelf = [("lid", 1, []), ("pan", 1, [])]
        for picks in itertools.permutations([("lid", 1), ("pan", 1), ("rim", 1)]):
            self.refused(NoEntry, shelf, [], list(picks))

    def test_two_versions_of_one_part(self):
        shelf = [("lid", 1, []), ("lid", 2, []), ("pan", 1, [])]
        self.refused(TwoVersions, shelf, [], [("lid", 1), ("lid", 2)])
        self.refused(TwoVersions, shelf, [], [("lid", 2), ("pan", 1), ("lid", 1)])
        self.refused(TwoVersions, shelf, [("lid", 1, 2)], [("pan", 1), ("lid", 2), ("lid", 1)])

    def test_the_very_same_pick_twice(self):
        shelf = [("lid", 1, []), ("", 0, [])]
        self.refused(TwoVersions, shelf, [("lid", 1, 1)], [("lid", 1), ("lid", 1)])
        self.refused(TwoVersions, shelf, [], [("", 0), ("lid", 1), ("", 0)])

    def test_no_entry_goes_ahead_of_two_versions(self):
        shelf = [("lid", 1, []), ("lid", 2, [])]
        self.refused(NoEntry, shelf, [], [("lid", 1), ("lid", 2), ("pan", 1)])
        self.refused(NoEntry, shelf, [], [("lid", 1), ("lid", 1), ("lid", 3)])
        self.refused(NoEntry, shelf, [], [("pan", 1), ("lid", 1), ("lid", 2)])
        self.refused(NoEntry, shelf, [], [("pan", 1), ("pan", 1)])
        self.refused(NoEntry, shelf, [], [("lid", 1), ("lid", 3)])

    def test_twice_there_goes_ahead_of_both(self):
        shelf = [("lid", 1, []), ("lid", 2, []), ("pan", 1, []), ("lid", 1, [("pan", 1, 1)])]
        for picks in ([], [("lid", 1)], [("rim", 1)], [("lid", 1), ("lid", 2)], [("lid", 3), ("lid", 1), ("lid", 1)]):
            self.refused(TwiceThere, shelf, [], picks)
            self.refused(TwiceThere, shelf, [("lid", 1, 2)], picks)

    def test_refused_also_where_an_early_need_would_be_told(self):
        shelf = [("lid", 1, []), ("lid", 2, []), ("pan", 1, [])]
        start = [("lid", 9, 9), ("rim", 1, 1)]
        self.refused(TwoVersions, shelf, start, [("pan", 1), ("lid", 1), ("lid", 2)])
        self.refused(NoEntry, shelf, start, [("lid", 1), ("rim", 1)])

    def test_versions_of_many_figures_are_refused_alike(self):
        for version in (HUNDRED, -HUNDRED, 10 ** 130, 10 ** 5000):
            shelf = [("lid", version, [])]
            self.refused(NoEntry, shelf, [], [("lid", version + 1)])
            self.refused(TwoVersions, shelf, [], [("lid", version), ("lid", version)])

    def test_the_same_version_of_two_parts_is_not_refused(self):
        shelf = [("lid", 1, []), ("pan", 1, []), ("", 1, [])]
        for function in FUNCTIONS:
            function(shelf, [], [("pan", 1), ("", 1), ("lid", 1)])

    def test_needs_are_no_reason_to_refuse(self):
        shelf = [("lid", 1, [("none", 5, 1), ("lid", 3, 3), ("lid", 3, 3)])]
        self.assertEqual(first_clash(shelf, [("none", 1, 1)], [("lid", 1)]), (("lid", 1), 1))
        self.assertEqual(first_open(shelf, [("none", 1, 1)], [("lid", 1)]), (None, 0))
        self.assertIs(fits(shelf, [("none", 1, 1)], [("lid", 1)]), False)


class FirstClashTest(unittest.TestCase):
    SHELF = [
        ("lid", 1, [("pan", 1, 5), ("rim", 3, 3), ("pan", 2, 5)]),
        ("pan", 1, [("rim", 1, 9), ("lid", 1, 1), ("lid", 2, 9)]),
        ("rim", 2, []),
        ("rim", 3, []),
        ("top", 4, [("top", 4, 4)]),
        ("top", 5, [("rim", 0, 9), ("top", 4, 4)]),
    ]

    def test_none_where_no_need_clashes(self):
        self.assertIsNone(first_clash(self.SHELF, [], []))
        self.assertIsNone(first_clash([], [], []))
        self.assertIsNone(first_clash(self.SHELF, [("rim", 2, 2)], [("rim", 2)]))
        self.assertIsNone(first_clash(self.SHELF, [("rim", 0, 9), ("top", 4, 9)], [("rim", 2), ("top", 4)]))

    def test_no_picks_clash_with_nothing(self):
        self.assertIsNone(first_clash(self.SHELF, [("rim", 7, 7), ("lid", 2, 1), ("none", 1, 1)], []))

    def test_an_open_need_does_not_clash(self):
        self.assertIsNone(first_clash(self.SHELF, [("pan", 7, 7), ("rim", 3, 3)], [("rim", 3)]))
        self.assertIsNone(first_clash(self.SHELF, [], [("lid", 1)]))

    def test_a_need_of_the_start_is_told_by_none_and_its_place(self):
        start = [("rim", 1, 9), ("lid", 9, 9), ("rim", 4, 9), ("rim", 5, 9)]
        self.assertEqual(first_clash(self.SHELF, start, [("rim", 3)]), (None, 2))

    def test_the_start_goes_ahead_of_the_picks(self):
        picks = [("lid", 1), ("rim", 2)]
        self.assertEqual(first_clash(self.SHELF, [("rim", 2, 2)], picks), (("lid", 1), 1))
        self.assertEqual(first_clash(self.SHELF, [("rim", 2, 2), ("rim", 3, 3)], picks), (None, 1))

    def test_the_picks_go_in_the_order_handed_in(self):
        self.assertEqual(first_clash(self.SHELF, [], [("lid", 1), ("pan", 1)]), (("lid", 1), 2))
        self.assertEqual(first_clash(self.SHELF, [], [("pan", 1), ("lid", 1)]), (("pan", 1), 2))

    def test_a_versions_needs_go_in_their_order(self):
        self.assertEqual(first_clash(self.SHELF, [], [("lid", 1), ("pan", 1), ("rim", 2)]), (("lid", 1), 1))
        self.assertEqual(first_clash(self.SHELF, [], [("lid", 1), ("pan", 1), ("rim", 3)]), (("lid", 1), 2))

    def test_the_first_of_a_need_that_stands_twice(self):
        shelf = [("lid", 1, [("pan", 1, 1), ("pan", 2, 2), ("pan", 2, 2)]), ("pan", 1, [])]
        self.assertEqual(first_clash(shelf, [], [("pan", 1), ("lid", 1)]), (("lid", 1), 1))
        start = [("pan", 1, 1), ("pan", 1, 1), ("pan", 3, 3), ("pan", 3, 3)]
        self.assertEqual(first_clash(shelf, start, [("pan", 1)]), (None, 2))

    def test_a_need_of_a_pick_for_its_own_part(self):
        self.assertIsNone(first_clash(self.SHELF, [], [("top", 4)]))
        self.assertEqual(first_clash(self.SHELF, [], [("top", 5)]), (("top", 5), 1))

    def test_low_greater_than_high_clashes_with_every_version(self):
        self.assertEqual(first_clash(self.SHELF, [("rim", 3, 2)], [("rim", 3)]), (None, 0))
        self.assertEqual(first_clash(self.SHELF, [("rim", 3, 2)], [("rim", 2)]), (None, 0))
        self.assertEqual(first_clash([("lid", 0, [("lid", 1, -1)])], [], [("lid", 0)]), (("lid", 0), 0))

    def test_just_at_the_ends_of_the_range_and_beyond(self):
        for version, told in ((1, (None, 0)), (2, None), (3, None), (4, None), (5, (None, 0))):
            self.assertEqual(first_clash([("lid", version, [])], [("lid", 2, 4)], [("lid", version)]), told)

    def test_nought_negative_and_very_long_versions(self):
        for version in (0, -1, HUNDRED, -HUNDRED, 10 ** 130):
            needs = [("lid", version, version), ("lid", version + 1, version)]
            shelf = [("lid", version, [("", 0, 0)]), ("", 0, needs)]
            picks = [("lid", version), ("", 0)]
            self.assertIsNone(first_clash(shelf, [("lid", version, version)], picks[:1]))
            self.assertEqual(first_clash(shelf, [("lid", version - 2, version - 1)], picks), (None, 0))
            self.assertEqual(first_clash(shelf, [], picks), (("", 0), 1))

    def test_a_pair_of_who_and_place_is_told(self):
        told = first_clash(self.SHELF, [], [("top", 5)])
        self.assertIs(type(told), tuple)
        self.assertIs(type(told[0]), tuple)
        self.assertIs(type(told[1]), int)


class FirstOpenTest(unittest.TestCase):
    SHELF = FirstClashTest.SHELF

    def test_none_where_no_need_is_open(self):
        self.assertIsNone(first_open(self.SHELF, [], []))
        self.assertIsNone(first_open([], [], []))
        self.assertIsNone(first_open(self.SHELF, [], [("rim", 2)]))
        self.assertIsNone(first_open(self.SHELF, [("lid", 1, 1)], [("lid", 1), ("pan", 1), ("rim", 2)]))

    def test_a_clashing_need_is_not_open(self):
        self.assertIsNone(first_open(self.SHELF, [("rim", 9, 9)], [("rim", 2)]))
        self.assertEqual(first_open(self.SHELF, [("rim", 9, 9), ("top", 1, 1)], [("rim", 2)]), (None, 1))

    def test_no_picks_leave_the_starts_first_need_open(self):
        self.assertEqual(first_open(self.SHELF, [("rim", 2, 2), ("lid", 1, 1)], []), (None, 0))
        self.assertEqual(first_open([], [("none", 1, 1)], []), (None, 0))

    def test_the_start_goes_ahead_of_the_picks(self):
        self.assertEqual(first_open(self.SHELF, [("lid", 1, 1)], [("lid", 1)]), (("lid", 1), 0))
        self.assertEqual(first_open(self.SHELF, [("lid", 1, 1), ("top", 4, 4)], [("lid", 1)]), (None, 1))

    def test_the_picks_go_in_the_order_handed_in(self):
        self.assertEqual(first_open(self.SHELF, [], [("lid", 1), ("pan", 1)]), (("lid", 1), 1))
        self.assertEqual(first_open(self.SHELF, [], [("pan", 1), ("lid", 1)]), (("pan", 1), 0))

    def test_a_versions_needs_go_in_their_order(self):
        self.assertEqual(first_open(self.SHELF, [], [("rim", 2), ("pan", 1)]), (("pan", 1), 1))
        self.assertEqual(first_open(self.SHELF, [], [("rim", 2), ("lid", 1)]), (("lid", 1), 0))

    def test_the_first_of_a_need_that_stands_twice(self):
        shelf = [("lid", 1, [("lid", 1, 1), ("pan", 2, 2), ("pan", 2, 2)])]
        self.assertEqual(first_open(shelf, [], [("lid", 1)]), (("lid", 1), 1))
        self.assertEqual(first_open(shelf, [("pan", 1, 1), ("pan", 1, 1)], [("lid", 1)]), (None, 0))

    def test_a_need_of_a_pick_for_its_own_part_is_never_open(self):
        self.assertIsNone(first_open(self.SHELF, [], [("top", 4)]))
        self.assertEqual(first_open(self.SHELF, [], [("top", 5)]), (("top", 5), 0))
        self.assertIsNone(first_open(self.SHELF, [], [("top", 5), ("rim", 2)]))

    def test_low_greater_than_high_is_open_where_its_part_is_not_picked(self):
        self.assertEqual(first_open(self.SHELF, [("rim", 3, 2)], [("top", 4)]), (None, 0))
        self.assertIsNone(first_open(self.SHELF, [("rim", 3, 2)], [("rim", 3)]))

    def test_a_part_that_is_not_on_the_shelf_is_open(self):
        self.assertEqual(first_open(self.SHELF, [("rim", 0, 9), ("none", 1, 1)], [("rim", 2)]), (None, 1))
        self.assertEqual(first_open(self.SHELF, [("", 1, 1)], [("rim", 2)]), (None, 0))

    def test_a_pair_of_who_and_place_is_told(self):
        told = first_open(self.SHELF, [], [("lid", 1)])
        self.assertIs(type(told), tuple)
        self.assertIs(type(told[0]), tuple)
        self.assertIs(type(told[1]), int)


class FitsTest(unittest.TestCase):
    def test_picks_that_fit_in_any_order(self):
        shelf = [("lid", 1, [("pan", 1, 2)]), ("pan", 2, [("rim", 0, 9)]), ("rim", 5, []), ("rim", 6, [])]
        for picks in itertools.permutations([("lid", 1), ("pan", 2), ("rim", 5)]):
            self.assertIs(fits(shelf, [("lid", 1, 1)], list(picks)), True)

    def test_an_open_need(self):
        shelf = [("lid", 1, [("pan", 1, 2)]), ("pan", 1, [])]
        self.assertIs(fits(shelf, [("lid", 1, 1)], []), False)
        self.assertIs(fits(shelf, [("lid", 1, 1)], [("lid", 1)]), False)
        self.assertIs(fits(shelf, [("lid", 1, 1), ("none", 1, 1)], [("lid", 1), ("pan", 1)]), False)
        self.assertIs(fits(shelf, [("lid", 1, 1)], [("lid", 1), ("pan", 1)]), True)

    def test_a_clashing_need(self):
        shelf = [("lid", 1, [("pan", 1, 2)]), ("pan", 3, [])]
        self.assertIs(fits(shelf, [("lid", 1, 1)], [("lid", 1), ("pan", 3)]), False)
        self.assertIs(fits(shelf, [("pan", 3, 2)], [("pan", 3)]), False)
        self.assertIs(fits(shelf, [("pan", 3, 3), ("pan", 4, 4)], [("pan", 3)]), False)

    def test_a_pick_that_nothing_names(self):
        shelf = [("lid", 1, []), ("pan", 1, [("lid", 1, 1)])]
        self.assertIs(fits(shelf, [("lid", 1, 1)], [("lid", 1), ("pan", 1)]), False)
        self.assertIs(fits(shelf, [("lid", 1, 1)], [("pan", 1), ("lid", 1)]), False)
        self.assertIs(fits(shelf, [], [("lid", 1)]), False)
        self.assertIs(fits(shelf, [("lid", 1, 1)], [("lid", 1)]), True)

    def test_a_pick_that_needs_itself_and_is_named_by_nothing_else(self):
        shelf = [("lid", 1, [("lid", 1, 1)]), ("pan", 1, [])]
        self.assertIs(fits(shelf, [], [("lid", 1)]), False)
        self.assertIs(fits(shelf, [("pan", 1, 1)], [("pan", 1), ("lid", 1)]), False)
        self.assertIs(fits(shelf, [("lid", 0, 9)], [("lid", 1)]), True)

    def test_two_picks_that_need_one_another(self):
        shelf = [("lid", 1, [("pan", 1, 1)]), ("pan", 1, [("lid", 1, 1)]), ("rim", 1, []), ("top", 1, [("pan", 1, 1)])]
        for picks in ([("lid", 1), ("pan", 1)], [("pan", 1), ("lid", 1)]):
            self.assertIs(fits(shelf, [], picks), False)
            self.assertIs(fits(shelf, [("rim", 1, 1)], picks + [("rim", 1)]), False)
            self.assertIs(fits(shelf, [("lid", 1, 1)], picks), True)
            self.assertIs(fits(shelf, [("pan", 1, 1)], picks), True)
            self.assertIs(fits(shelf, [("top", 1, 1)], picks + [("top", 1)]), True)
            self.assertIs(fits(shelf, [("top", 1, 1)], [("top", 1)] + picks), True)

    def test_a_part_counts_as_named_by_any_need_for_it(self):
        shelf = [("lid", 1, [("pan", 0, 9), ("pan", 0, 9)]), ("pan", 1, [("rim", 1, 1)]), ("rim", 1, [])]
        picks = [("rim", 1), ("pan", 1), ("lid", 1)]
        self.assertIs(fits(shelf, [("lid", 1, 1), ("lid", 0, 2)], picks), True)

    def test_an_empty_start_with_no_picks(self):
        self.assertIs(fits([], [], []), True)
        self.assertIs(fits([("lid", 1, [("pan", 1, 1)])], [], []), True)

    def test_a_chain_of_many_picks(self):
        for count in (100, 120, 1200):
            shelf = [(f"part{each}", each, [(f"part{each + 1}", each + 1, each + 1)]) for each in range(count - 1)]
            shelf.append((f"part{count - 1}", count - 1, []))
            picks = [(f"part{each}", each) for each in range(count)]
            start = [("part0", 0, 0)]
            self.assertIs(fits(shelf, start, picks), True)
            self.assertIs(fits(shelf, start, picks[::-1]), True)
            self.assertIs(fits(shelf, start, picks[:-1]), False)
            self.assertIs(fits(shelf, start, picks[:5] + picks[6:]), False)
            self.assertIs(fits(shelf, [("part1", 1, 1)], picks), False)

    def test_the_empty_text_nought_negative_and_long_versions(self):
        for version in (0, -1, HUNDRED, -HUNDRED):
            shelf = [("", version, [("pan", -HUNDRED, HUNDRED)]), ("pan", version, [])]
            self.assertIs(fits(shelf, [("", version, version)], [("", version), ("pan", version)]), True)
            self.assertIs(fits(shelf, [("", version + 1, HUNDRED + 1)], [("", version), ("pan", version)]), False)


class BesideAnotherTest(unittest.TestCase):
    def test_many_boards_and_picks_beside_what_was_written_apart(self):
        seen = {}
        for seed in range(1500):
            shelf, start = small_board(seed)
            picks = some_picks(random.Random(seed), shelf)
            told = (first_clash(shelf, start, picks), first_open(shelf, start, picks), fits(shelf, start, picks))
            self.assertEqual(told[0], clash_apart(shelf, start, picks), seed)
            self.assertEqual(told[1], open_apart(shelf, start, picks), seed)
            self.assertEqual(told[2], fits_apart(shelf, start, picks), seed)
            kind = (told[0] is None, told[1] is None, told[2])
            seen[kind] = seen.get(kind, 0) + 1
        self.assertEqual(len(seen), 5)
        self.assertGreater(min(seen.values()), 20, seen)


class BoundsTest(unittest.TestCase):
    def test_a_thousand_needs_and_somewhat_more(self):
        for count in (1000, 1200):
            needs = [("pan", 0, 9)] * (count - 2) + [("rim", 1, 1), ("pan", 2, 2)]
            shelf = [("lid", 1, needs), ("pan", 1, [])]
            picks = [("pan", 1), ("lid", 1)]
            self.assertEqual(first_clash(shelf, [], picks), (("lid", 1), count - 1))
            self.assertEqual(first_open(shelf, [], picks), (("lid", 1), count - 2))
            self.assertEqual(first_clash(shelf, needs, picks), (None, count - 1))
            self.assertEqual(first_open(shelf, needs, picks), (None, count - 2))
            self.assertIs(fits(shelf, needs[:count - 2], [("pan", 1)]), True)


if __name__ == "__main__":
    unittest.main()
