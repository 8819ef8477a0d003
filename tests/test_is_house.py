"""Which house is valid, and how deep it may be: [5], [6], [8]."""

import unittest

from anyworth.houses import is_house
from tests.samples import BIG, WORTHS, YES, nested_left, nested_right

NUMBERS = [-BIG, -1, 0, 1, 2, 39, 40, 41, BIG]

NOT_VALID = [
    ("capped", 0),
    ("capped", -1),
    ("modulo", 0),
    ("chain", 0),
    ("divisors", 0),
    ("prices", 0),
    ("prices", 41),
    ("table", 1, ((0,),), ((0,),)),
]


class IsHouseTest(unittest.TestCase):
    def assert_house(self, house, expected):
        with self.subTest(house=house):
            self.assertIs(is_house(house), expected)

    def test_forms_without_a_number(self):
        for form in ("counts", "yes", "least", "sums", "families", "formulas"):
            self.assert_house((form,), True)

    def test_a_name_that_is_no_form(self):
        self.assert_house(("other",), False)
        self.assert_house(("pair", ("other",), ("yes",)), False)

    def test_forms_with_a_number_from_one(self):
        for form in ("capped", "modulo", "chain", "divisors"):
            for number in NUMBERS:
                self.assert_house((form, number), number >= 1)

    def test_prices_have_from_one_to_forty_numbers(self):
        for number in NUMBERS:
            self.assert_house(("prices", number), number in (1, 2, 39, 40))

    def test_all_sample_houses_are_valid(self):
        for house in WORTHS:
            self.assert_house(house, True)

    def test_tables_with_a_fault(self):
        yes_plus, yes_times = YES[2:]
        self.assert_house(YES, True)
        self.assert_house(("table", 0, yes_plus, yes_times), False)
        self.assert_house(("table", 2, yes_plus, yes_times), False)
        self.assert_house(("table", -1, yes_plus, yes_times), False)
        self.assert_house(("table", BIG, yes_plus, yes_times), False)
        self.assert_house(("table", 1, (), ()), False)
        self.assert_house(("table", 0, (), ()), False)
        self.assert_house(("table", 1, yes_plus, ((0, 0),)), False)
        self.assert_house(("table", 1, ((0, 1), (1, 2)), yes_times), False)
        self.assert_house(("table", 1, ((0, 1), (0, 1)), yes_times), False)
        self.assert_house(("table", 1, yes_plus, ((0, 0), (1, 1))), False)

    def test_a_table_of_six_worths_and_one_of_seven(self):
        for size in (6, 7):
            worths = range(size)
            plus = tuple(tuple(max(a, b) for b in worths) for a in worths)
            times = tuple(tuple(min(a, b) for b in worths) for a in worths)
            self.assert_house(("table", size - 1, plus, times), size == 6)

    def test_pairs_of_valid_houses(self):
        houses = list(WORTHS)
        for house in houses:
            self.assert_house(("pair", house, ("yes",)), True)
            self.assert_house(("pair", ("yes",), house), True)
        self.assert_house(("pair", ("counts",), ("counts",)), True)

    def test_pairs_with_a_house_that_is_not_valid(self):
        for house in NOT_VALID:
            self.assert_house(house, False)
            self.assert_house(("pair", house, ("yes",)), False)
            self.assert_house(("pair", ("yes",), house), False)
            self.assert_house(("pair", house, house), False)
            for depth in (3, 6):
                self.assert_house(nested_left(house, depth), False)
                self.assert_house(nested_right(house, depth), False)

    def test_depth(self):
        for house in (("counts",), ("prices", 40), YES, ("chain", BIG)):
            for depth in range(1, 10):
                self.assert_house(nested_left(house, depth), depth <= 6)
                self.assert_house(nested_right(house, depth), depth <= 6)

    def test_depth_is_counted_on_the_deeper_side(self):
        shallow = nested_left(("counts",), 2)
        for depth in (4, 5, 6):
            for nested in (nested_left, nested_right):
                deep = nested(("counts",), depth)
                self.assert_house(("pair", deep, shallow), depth <= 5)
                self.assert_house(("pair", shallow, deep), depth <= 5)
                self.assert_house(("pair", deep, deep), depth <= 5)

    def test_depth_from_side_to_side(self):
        house = ("least",)
        for depth in range(2, 9):
            house = ("pair", ("yes",), house) if depth % 2 == 0 else ("pair", house, ("yes",))
            self.assert_house(house, depth <= 6)

    def test_a_full_nest(self):
        house = ("modulo", 2)
        for depth in range(2, 8):
            house = ("pair", house, house)
            self.assert_house(house, depth <= 6)

    def test_a_house_much_too_deep_is_not_valid(self):
        self.assertIs(is_house(nested_left(("counts",), 100000)), False)
        self.assertIs(is_house(nested_right(("counts",), 100000)), False)


if __name__ == "__main__":
    unittest.main()
