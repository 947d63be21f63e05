"""Points 1 to 3 over the whole program, and the interface: names, refusals, and that nothing handed in is changed."""

import copy
import inspect
import random
import unittest

from apart import small_board, some_picks
from fitboard.errors import BoardError, NoEntry, TwiceThere, TwoVersions
from fitboard.lines import bars, first_bad
from fitboard.needs import first_clash, first_open, fits
from fitboard.search import worked_out
from fitboard.shelf import fitting

PARAMETERS = {
    fitting: ["shelf", "need"],
    first_clash: ["shelf", "start", "picks"],
    first_open: ["shelf", "start", "picks"],
    fits: ["shelf", "start", "picks"],
    first_bad: ["shelf", "start", "lines"],
    bars: ["lines", "picks"],
    worked_out: ["shelf", "start"],
}
LINES = [
    ([("lid", 2)], ("open", ("lid", 2), 0, [])),
    ([("lid", 9), ("none", 1)], ("outside", ("lid", 9), 5, ("none", 1))),
    ([], ("open", None, 0, [0, 7, -1])),
]


def lists_in(value):
    """All lists in a value, at whatever depth, itself too."""
    found = [value] if isinstance(value, list) else []
    if isinstance(value, (list, tuple)):
        for each in value:
            found += lists_in(each)
    return found


def called(function, given):
    """What the function tells or refuses with, called with what it takes of what is given."""
    try:
        return function(*[given[name] for name in PARAMETERS[function]])
    except BoardError as error:
        return type(error)


class InterfaceTest(unittest.TestCase):
    def test_the_arguments_are_called_as_in_the_interface(self):
        given = {"shelf": [("lid", 1, [])], "start": [("lid", 1, 1)], "picks": [("lid", 1)], "lines": []}
        given["need"] = ("lid", 1, 1)
        told = {}
        for function, names in PARAMETERS.items():
            self.assertEqual(list(inspect.signature(function).parameters), names)
            told[function.__name__] = function(**{name: given[name] for name in names})
        self.assertEqual(told, {
            "fitting": [1], "first_clash": None, "first_open": None, "fits": True, "first_bad": None, "bars": False,
            "worked_out": ([("lid", 1)], []),
        })


class RefusalTest(unittest.TestCase):
    START = [("lid", 1, 2), ("none", 0, 0)]
    NEED = ("lid", 0, 9)

    def told(self, shelf, picks):
        given = {"shelf": shelf, "start": self.START, "picks": picks, "lines": LINES, "need": self.NEED}
        taking = [function for function in PARAMETERS if "shelf" in PARAMETERS[function]]
        return {function.__name__: called(function, given) for function in taking}

    def test_each_that_takes_a_shelf_refuses_with_twice_there_ahead_of_all_else(self):
        shelf = [("lid", 1, []), ("lid", 2, []), ("pan", 3, [("lid", 1, 1)]), ("pan", 3, [])]
        for picks in ([], [("lid", 1)], [("none", 1)], [("lid", 1), ("lid", 2)], [("lid", 1), ("lid", 1), ("pan", 4)]):
            told = self.told(shelf, picks)
            self.assertEqual(len(told), 6)
            self.assertEqual(set(told.values()), {TwiceThere})

    def test_those_that_take_picks_too_refuse_with_no_entry_ahead_of_two_versions(self):
        shelf = [("lid", 1, []), ("lid", 2, []), ("pan", 3, [("lid", 1, 1)])]
        for picks in ([("none", 1)], [("lid", 3)], [("lid", 1), ("lid", 2), ("pan", 2)], [("none", 1), ("none", 1)]):
            told = self.told(shelf, picks)
            self.assertEqual([told[name] for name in ("first_clash", "first_open", "fits")], [NoEntry] * 3)
            self.assertEqual([told["fitting"], told["first_bad"]], [[2, 1], 0])
            self.assertIsNone(told["worked_out"][0])

    def test_those_that_take_picks_too_refuse_with_two_versions(self):
        shelf = [("lid", 1, []), ("lid", 2, []), ("pan", 3, [("lid", 1, 1)])]
        for picks in ([("lid", 1), ("lid", 2)], [("lid", 2), ("pan", 3), ("lid", 2)], [("pan", 3), ("pan", 3)]):
            told = self.told(shelf, picks)
            self.assertEqual([told[name] for name in ("first_clash", "first_open", "fits")], [TwoVersions] * 3)

    def test_bars_refuses_nothing(self):
        for picks in ([], [("none", 1)], [("lid", 1), ("lid", 2)], [("lid", 2), ("lid", 2)]):
            self.assertIs(bars(LINES, picks), True)
            self.assertIs(bars(LINES[:2], picks), ("lid", 2) in picks)


class NothingChangedTest(unittest.TestCase):
    def kept(self, given):
        """What each function tells, after a look at what was handed in: it must be the very same as before."""
        told = {}
        for function in PARAMETERS:
            before = copy.deepcopy(given)
            lists = [(each, list(each)) for each in lists_in(list(given.values()))]
            told[function.__name__] = called(function, given)
            self.assertEqual(given, before, function)
            for each, held in lists[1:]:
                self.assertEqual([id(item) for item in each], [id(item) for item in held], function)
        return told

    def boards(self):
        for seed in range(250):
            shelf, start = small_board(seed)
            lines = worked_out(shelf, start)[1]
            yield random.Random(seed), {
                "shelf": shelf, "start": start, "picks": some_picks(random.Random(seed), shelf),
                "lines": lines, "need": (start + [("lid", 1, 1)])[0],
            }

    def test_what_is_handed_in_stays_as_it_was(self):
        seen = set()
        for chance, given in self.boards():
            told = self.kept(given)
            seen.add((told["fits"], told["worked_out"][0] is None, len(given["lines"]) > 3))
        self.assertGreater(len(seen), 4)

    def test_lines_that_do_not_follow_stay_as_they_were(self):
        shelf = [("lid", 2, [("none", 1, 1)]), ("lid", 1, [])]
        for place in range(3):
            given = {"shelf": shelf, "start": [("lid", 1, 2)], "picks": [], "lines": LINES[place:] + LINES[:place]}
            given["need"] = ("lid", 1, 2)
            self.assertIsNotNone(self.kept(given)["first_bad"])

    def test_what_is_refused_stays_as_it_was(self):
        for chance, given in self.boards():
            for refusal in (TwiceThere, NoEntry, TwoVersions):
                changed = copy.deepcopy(given)
                if refusal is TwiceThere and changed["shelf"]:
                    changed["shelf"].insert(chance.randint(0, len(changed["shelf"])), changed["shelf"][0])
                if refusal is NoEntry:
                    changed["picks"].append(("lid", 77))
                if refusal is TwoVersions and changed["picks"]:
                    changed["picks"].append(changed["picks"][0])
                told = self.kept(changed)
                if changed != given:
                    self.assertEqual([told["first_clash"], told["first_open"], told["fits"]], [refusal] * 3)

    def test_needs_that_share_one_list_stay_as_they_were(self):
        needs = [("pan", 2, 3), ("lid", 1, 2), ("pan", 2, 3)]
        shelf = [("lid", 2, needs), ("lid", 1, needs), ("pan", 3, needs), ("pan", 1, [])]
        given = {"shelf": shelf, "start": needs, "picks": [("pan", 3), ("lid", 2)], "lines": LINES}
        given["need"] = ("lid", 1, 2)
        told = self.kept(given)
        self.assertEqual(told["worked_out"][0], [("lid", 2), ("pan", 3)])
        self.assertIs(told["fits"], True)


class NothingSharedTest(unittest.TestCase):
    def test_what_is_told_shares_no_list_with_what_was_handed_in_nor_within_itself(self):
        for seed in range(250):
            shelf, start = small_board(seed)
            handed = {id(each) for each in lists_in([shelf, start])}
            told = lists_in(worked_out(shelf, start))
            self.assertEqual(len({id(each) for each in told}), len(told))
            self.assertEqual(handed & {id(each) for each in told}, set())
            need = (start + [("lid", 1, 1)])[0]
            self.assertNotIn(id(fitting(shelf, need)), handed)

    def test_a_later_change_of_what_is_told_changes_nothing_that_was_handed_in(self):
        for seed in range(250):
            shelf, start = small_board(seed)
            before = copy.deepcopy((shelf, start))
            first = worked_out(shelf, start)
            again = copy.deepcopy(first)
            for each in lists_in(first):
                each.clear()
            self.assertEqual((shelf, start), before)
            self.assertEqual(worked_out(shelf, start), again)

    def test_a_later_change_of_what_was_handed_in_changes_nothing_that_is_told(self):
        for seed in range(250):
            shelf, start = small_board(seed)
            told = worked_out(shelf, start)
            before = copy.deepcopy(told)
            for each in lists_in([shelf, start]):
                each.clear()
            self.assertEqual(told, before)


if __name__ == "__main__":
    unittest.main()
