"""The kinds of each house: [12]."""

import unittest

from anyworth.houses import kinds_of, one, plus, times
from tests.samples import (
    BIG,
    CHAIN_OF_SIX,
    FAMILIES_TABLE,
    MODULO_THREE,
    ONE_WORTH,
    PRICES_TABLE,
    SUMS_TABLE,
    WORTHS,
    YES,
    nested_left,
    nested_right,
)

ALL = ("all",)
ONCE = ("all", "once")
SETS = ("all", "once", "sets")
PRICES = ("all", "once", "prices")
EVERY = ("all", "once", "sets", "prices", "yes")

KINDS = {
    ("counts",): ALL,
    ("capped", 1): EVERY,
    ("capped", 2): ALL,
    ("capped", 5): ALL,
    ("capped", BIG): ALL,
    ("modulo", 1): EVERY,
    ("modulo", 2): ALL,
    ("modulo", 6): ALL,
    ("modulo", BIG): ALL,
    ("yes",): EVERY,
    ("chain", 1): EVERY,
    ("chain", 4): EVERY,
    ("chain", BIG): EVERY,
    ("divisors", 1): EVERY,
    ("divisors", 12): EVERY,
    ("divisors", BIG): EVERY,
    ("least",): PRICES,
    ("prices", 1): PRICES,
    ("prices", 2): PRICES,
    ("prices", 3): PRICES,
    ("prices", 40): PRICES,
    ("sums",): ONCE,
    ("families",): SETS,
    ("formulas",): ALL,
    ONE_WORTH: EVERY,
    YES: EVERY,
    MODULO_THREE: ALL,
    CHAIN_OF_SIX: EVERY,
    SUMS_TABLE: ONCE,
    FAMILIES_TABLE: SETS,
    PRICES_TABLE: PRICES,
}


def kinds_by_trial(house, worths):
    """Return the kinds whose equations hold for the listed worths."""
    doubles = all(plus(house, a, a) == a for a in worths)
    squares = all(times(house, a, a) == a for a in worths)
    covers = all(plus(house, one(house), a) == one(house) for a in worths)
    found = (True, doubles, doubles and squares, covers, covers and squares)
    return tuple(kind for kind, holds in zip(EVERY, found) if holds)


class KindsTest(unittest.TestCase):
    def test_each_form(self):
        for house, kinds in KINDS.items():
            with self.subTest(house=house):
                self.assertEqual(kinds_of(house), kinds)
                self.assertIs(type(kinds_of(house)), tuple)

    def test_the_equations_hold_for_just_these_kinds(self):
        for house, worths in WORTHS.items():
            with self.subTest(house=house):
                self.assertEqual(kinds_of(house), kinds_by_trial(house, worths))

    def test_small_numbers(self):
        for number in range(1, 9):
            for form, worths in (
                ("capped", range(number + 1)),
                ("modulo", range(number)),
                ("chain", range(number + 1)),
                ("divisors", [worth for worth in range(1, number + 1) if number % worth == 0]),
            ):
                house = (form, number)
                with self.subTest(house=house):
                    self.assertEqual(kinds_of(house), kinds_by_trial(house, worths))

    def test_a_pair_has_the_kinds_of_both_houses(self):
        for house, kinds in KINDS.items():
            for other, other_kinds in KINDS.items():
                both = tuple(kind for kind in EVERY if kind in kinds and kind in other_kinds)
                self.assertEqual(kinds_of(("pair", house, other)), both)

    def test_sets_beside_prices_leaves_once(self):
        self.assertEqual(kinds_of(("pair", ("families",), ("least",))), ONCE)
        self.assertEqual(kinds_of(("pair", ("least",), ("families",))), ONCE)

    def test_nested_pairs(self):
        for house, kinds in KINDS.items():
            for depth in (3, 6):
                self.assertEqual(kinds_of(nested_left(house, depth)), kinds)
                self.assertEqual(kinds_of(nested_right(house, depth)), kinds)
        nest = ("pair", ("pair", ("yes",), ("families",)), ("pair", ("capped", 1), ("chain", 3)))
        self.assertEqual(kinds_of(nest), SETS)
        self.assertEqual(kinds_of(("pair", nest, ("sums",))), ONCE)
        self.assertEqual(kinds_of(("pair", nest, ("modulo", 2))), ALL)


if __name__ == "__main__":
    unittest.main()
