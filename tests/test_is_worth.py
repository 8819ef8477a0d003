"""Which value is a worth of a house: [5], [7], [9]."""

import unittest

from anyworth.houses import is_worth
from tests.samples import BAD_WORTHS, BIG, WORTHS, nested_left, nested_right, worth_left, worth_right


class IsWorthTest(unittest.TestCase):
    def assert_worth(self, house, worth, expected):
        with self.subTest(house=house, worth=worth):
            self.assertIs(is_worth(house, worth), expected)

    def test_worths(self):
        for house, worths in WORTHS.items():
            for worth in worths:
                self.assert_worth(house, worth, True)

    def test_values_that_are_not_worths(self):
        for house, values in BAD_WORTHS.items():
            for value in values:
                self.assert_worth(house, value, False)

    def test_the_ends_of_the_ranges(self):
        for number in (1, 2, 6, BIG):
            for form, least, greatest in (("capped", 0, number), ("modulo", 0, number - 1), ("chain", 0, number)):
                house = (form, number)
                self.assert_worth(house, least - 1, False)
                self.assert_worth(house, least, True)
                self.assert_worth(house, greatest, True)
                self.assert_worth(house, greatest + 1, False)

    def test_every_divisor_is_a_worth_and_nothing_else(self):
        for number in range(1, 31):
            for worth in range(-number, 2 * number + 1):
                self.assert_worth(("divisors", number), worth, worth >= 1 and number % worth == 0)

    def test_families_are_closed_and_sums_need_not_be(self):
        for lot, closed in (((1, 2), False), ((1, 2, 3), True), ((0, 1, 2), False), ((4, 8), False), ((7, 8), False)):
            self.assert_worth(("families",), lot, closed)
            self.assert_worth(("sums",), lot, True)

    def test_prices_of_the_right_width_only(self):
        for width in (1, 2, 3, 40):
            for length in (0, 1, 2, 3, 39, 40, 41):
                self.assert_worth(("prices", width), ((1,) * length,), length == width)

    def test_an_item_within_a_deep_nest_does_not_count_as_a_worth(self):
        nest = ()
        for _ in range(50000):
            nest = (nest,)
        for house in WORTHS:
            self.assertIs(is_worth(house, nest), False)

    def test_pairs_at_any_depth(self):
        for house in WORTHS:
            if house[0] == "pair":
                continue
            for depth in (2, 3, 6):
                for worth in WORTHS[house]:
                    self.assert_worth(nested_left(house, depth), worth_left(worth, depth), True)
                    self.assert_worth(nested_right(house, depth), worth_right(worth, depth), True)

    def test_pairs_with_something_that_is_not_a_worth_at_any_depth(self):
        for house in BAD_WORTHS:
            if house[0] == "pair":
                continue
            for depth in (2, 3, 6):
                for worth in BAD_WORTHS[house]:
                    self.assert_worth(nested_left(house, depth), worth_left(worth, depth), False)
                    self.assert_worth(nested_right(house, depth), worth_right(worth, depth), False)

    def test_pairs_of_another_form(self):
        for house in WORTHS:
            worth = WORTHS[house][0]
            pair = ("pair", house, ("yes",))
            self.assert_worth(pair, (worth, 1), True)
            self.assert_worth(pair, (worth, 2), False)
            self.assert_worth(pair, (worth, None), False)
            self.assert_worth(pair, (worth,), False)
            self.assert_worth(pair, (worth, 1, 1), False)
            self.assert_worth(pair, (1, 1, worth), False)
            self.assert_worth(pair, ((worth, 1),), False)
            self.assert_worth(pair, (), False)
            self.assert_worth(pair, None, False)
            self.assert_worth(pair, 1, False)

    def test_pairs_with_items_exchanged(self):
        for house, worth in ((("sums",), (1,)), (("least",), None), (("divisors", 12), 12), (("prices", 1), ((0,),))):
            self.assert_worth(("pair", house, ("yes",)), (worth, 0), True)
            self.assert_worth(("pair", house, ("yes",)), (0, worth), False)
            self.assert_worth(("pair", ("yes",), house), (0, worth), True)
            self.assert_worth(("pair", ("yes",), house), (worth, 0), False)


if __name__ == "__main__":
    unittest.main()
