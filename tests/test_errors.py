"""The errors: their order under one base class, and their attributes."""

import unittest

from anyworth import errors
from anyworth.errors import BadText, NoFact, NoHouse, NoKept, NoQuestion, NoRow, NoWorth, OtherWidths, WorthError

DIRECT = [NoHouse, NoWorth, NoRow, OtherWidths, NoQuestion, BadText, NoFact, NoKept]


class ErrorTest(unittest.TestCase):
    def test_the_base_class_is_a_value_error(self):
        self.assertEqual(WorthError.__bases__, (ValueError,))

    def test_each_class_is_directly_under_the_base_class(self):
        for error in DIRECT:
            with self.subTest(error=error.__name__):
                self.assertEqual(error.__bases__, (WorthError,))

    def test_no_class_is_under_another_one(self):
        for error in DIRECT:
            for other in DIRECT:
                if error is not other:
                    self.assertFalse(issubclass(error, other))

    def test_all_stand_in_the_file_itself(self):
        for error in DIRECT + [WorthError]:
            self.assertEqual(error.__module__, "anyworth.errors")
            self.assertIs(getattr(errors, error.__name__), error)

    def test_each_can_be_caught_as_the_base_class(self):
        raised = [NoHouse(), NoWorth(), NoRow(), OtherWidths(), NoQuestion(1), BadText(2), NoFact(3), NoKept(4)]
        for error in raised:
            for caught in (type(error), WorthError, ValueError):
                with self.assertRaises(caught):
                    raise error

    def test_plain_errors_take_a_text(self):
        for error in (WorthError, NoHouse, NoWorth, NoRow, OtherWidths):
            self.assertEqual(str(error("why")), "why")

    def test_the_join_of_no_question(self):
        for join in (None, 0, 3, 11):
            self.assertEqual(NoQuestion(join).join, join)
            self.assertEqual(NoQuestion(join=join).join, join)

    def test_the_place_of_bad_text(self):
        for at in (0, 14, 20000):
            self.assertEqual(BadText(at).at, at)
            self.assertEqual(BadText(at=at).at, at)

    def test_the_numbers_of_no_fact_and_no_kept(self):
        for error in (NoFact, NoKept):
            for number in (-1, 0, 7, 10 ** 40):
                self.assertEqual(error(number).number, number)
                self.assertEqual(error(number=number).number, number)


if __name__ == "__main__":
    unittest.main()
