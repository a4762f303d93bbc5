import unittest

from nogroupleaves.errors import BadPaper, BadRatio, BadTable, BadText, GroupError, NoPayments
from nogroupleaves.ratio import Ratio

KINDS = (BadText, BadPaper, BadTable, NoPayments, BadRatio)
WEIGHTS = (((0,), Ratio(1, 2)), ((0, 1), Ratio(1, 2)))


class ErrorsTest(unittest.TestCase):
    def test_group_error_is_a_value_error(self):
        self.assertTrue(issubclass(GroupError, ValueError))

    def test_each_error_is_a_group_error(self):
        for kind in KINDS:
            self.assertTrue(issubclass(kind, GroupError), kind)
            self.assertIsNot(kind, GroupError)

    def test_no_error_is_another_one(self):
        for kind in KINDS:
            for other in KINDS:
                self.assertEqual(issubclass(kind, other), kind is other, (kind, other))

    def test_at(self):
        for at in (0, 7, 10 ** 30):
            self.assertEqual(BadText(at).at, at)
            self.assertEqual(BadText(at=at).at, at)
            self.assertEqual(BadPaper(at).at, at)
            self.assertEqual(BadPaper(at=at).at, at)

    def test_what(self):
        for what in ("count", "group", "order", "single", "whole"):
            self.assertEqual(BadTable(what).what, what)
            self.assertEqual(BadTable(what=what).what, what)

    def test_weights(self):
        for weights in ((), WEIGHTS):
            self.assertEqual(NoPayments(weights).weights, weights)
            self.assertEqual(NoPayments(weights=weights).weights, weights)

    def test_weights_of_lists_are_kept_as_tuples(self):
        row = [[0], Ratio(1, 2)]
        weights = [row, [[0, 1], Ratio(1, 2)]]
        error = NoPayments(weights)
        row[0].append(3)
        row.append(4)
        weights.clear()
        self.assertEqual(error.weights, WEIGHTS)

    def test_attributes_are_there_when_caught(self):
        for error, name, worth in (
            (BadText(3), "at", 3),
            (BadPaper(4), "at", 4),
            (BadTable("whole"), "what", "whole"),
            (NoPayments(WEIGHTS), "weights", WEIGHTS),
        ):
            with self.assertRaises(GroupError) as caught:
                raise error
            self.assertEqual(getattr(caught.exception, name), worth)

    def test_bad_ratio_takes_a_message_or_none(self):
        for error in (BadRatio(), BadRatio("why")):
            with self.assertRaises(GroupError):
                raise error


if __name__ == "__main__":
    unittest.main()
