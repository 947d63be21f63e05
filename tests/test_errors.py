"""The refusals: what stands under what."""

import unittest

from fitboard.errors import BoardError, NoEntry, TwiceThere, TwoVersions

REFUSALS = (TwiceThere, NoEntry, TwoVersions)


class ErrorsTest(unittest.TestCase):
    def test_a_board_error_stands_straight_under_value_error(self):
        self.assertEqual(BoardError.__bases__, (ValueError,))

    def test_each_refusal_stands_straight_under_board_error(self):
        for refusal in REFUSALS:
            self.assertEqual(refusal.__bases__, (BoardError,), refusal)

    def test_each_refusal_is_taken_as_itself_as_a_board_error_and_as_a_value_error(self):
        for refusal in REFUSALS:
            for taken in (refusal, BoardError, ValueError):
                with self.assertRaises(taken):
                    raise refusal("words")

    def test_no_refusal_is_another_one(self):
        for refusal in REFUSALS:
            for other in REFUSALS:
                self.assertEqual(issubclass(refusal, other), refusal == other)

    def test_the_names_are_those_of_the_interface(self):
        names = [each.__name__ for each in (BoardError,) + REFUSALS]
        self.assertEqual(names, ["BoardError", "TwiceThere", "NoEntry", "TwoVersions"])


if __name__ == "__main__":
    unittest.main()
