"""The house of formulas: [9], [10]."""

import random
import unittest

from anyworth.houses import is_worth, multiple, one, plus, power, product_of, sum_of, times, zero
from tests.samples import BIG, X, Y

HOUSE = ("formulas",)


def tag(number):
    return ((((number, 1),), 1),)


def read(formula, values):
    """Return the number that a formula stands for, with a number for each tag."""
    total = 0
    for monomial, coefficient in formula:
        for number, exponent in monomial:
            coefficient *= values[number] ** exponent
        total += coefficient
    return total


class FormulasHouseTest(unittest.TestCase):
    def test_zero_and_one(self):
        self.assertEqual(zero(HOUSE), ())
        self.assertEqual(one(HOUSE), (((), 1),))

    def test_like_monomials_are_put_together(self):
        self.assertEqual(plus(HOUSE, X, X), ((((1, 1),), 2),))
        self.assertEqual(plus(HOUSE, ((((1, 1),), 2), (((2, 3),), 4)), ((((2, 3),), 5),)),
                         ((((1, 1),), 2), (((2, 3),), 9)))
        self.assertEqual(plus(HOUSE, one(HOUSE), one(HOUSE)), (((), 2),))

    def test_monomials_are_in_ascending_order_as_tuples(self):
        monomials = [(), ((1, 1),), ((1, 1), (2, 1)), ((1, 1), (3, 1)), ((1, 2),), ((2, 1),), ((10, 1),)]
        parts = [((monomial, 1),) for monomial in monomials]
        expected = tuple((monomial, 1) for monomial in monomials)
        for seed in range(10):
            random.Random(seed).shuffle(parts)
            self.assertEqual(sum_of(HOUSE, parts), expected)
        self.assertIs(is_worth(HOUSE, expected), True)

    def test_tags_are_in_ascending_order_in_a_product(self):
        expected = ((((1, 1), (2, 1)), 1),)
        self.assertEqual(times(HOUSE, X, Y), expected)
        self.assertEqual(times(HOUSE, Y, X), expected)
        self.assertEqual(product_of(HOUSE, [tag(9), tag(10), tag(2)]), ((((2, 1), (9, 1), (10, 1)), 1),))

    def test_exponents_and_coefficients(self):
        self.assertEqual(times(HOUSE, X, X), ((((1, 2),), 1),))
        self.assertEqual(times(HOUSE, ((((1, 2), (2, 1)), 3),), ((((1, 1), (3, 5)), 4),)),
                         ((((1, 3), (2, 1), (3, 5)), 12),))
        self.assertEqual(times(HOUSE, (((), BIG),), ((((BIG, BIG),), BIG),)), ((((BIG, BIG),), BIG * BIG),))
        self.assertEqual(times(HOUSE, ((((BIG, BIG),), 1),), ((((BIG, 1),), 1),)), ((((BIG, BIG + 1),), 1),))

    def test_products_are_spread(self):
        both = plus(HOUSE, X, Y)
        square = ((((1, 1), (2, 1)), 2), (((1, 2),), 1), (((2, 2),), 1))
        self.assertEqual(times(HOUSE, both, both), square)
        self.assertEqual(power(HOUSE, both, 2), square)
        more = plus(HOUSE, both, one(HOUSE))
        self.assertEqual(times(HOUSE, X, more), ((((1, 1),), 1), (((1, 1), (2, 1)), 1), (((1, 2),), 1)))

    def test_powers_and_multiples(self):
        both = plus(HOUSE, X, one(HOUSE))
        self.assertEqual(power(HOUSE, both, 3), (((), 1), (((1, 1),), 3), (((1, 2),), 3), (((1, 3),), 1)))
        self.assertEqual(multiple(HOUSE, both, 60), (((), 60), (((1, 1),), 60)))
        expected = 2 ** 60
        self.assertEqual(sum(coefficient for _, coefficient in power(HOUSE, both, 60)), expected)

    def test_by_reading_as_numbers(self):
        chance = random.Random(4)
        values = {1: 3, 2: 5, 3: 7}

        def some_formula():
            parts = {}
            for _ in range(chance.randrange(5)):
                tags = sorted(chance.sample([1, 2, 3], chance.randrange(4)))
                parts[tuple((number, chance.randrange(1, 4)) for number in tags)] = chance.randrange(1, 9)
            return tuple(sorted(parts.items()))

        for _ in range(300):
            formula, other = some_formula(), some_formula()
            total, made = plus(HOUSE, formula, other), times(HOUSE, formula, other)
            self.assertIs(is_worth(HOUSE, total), True)
            self.assertIs(is_worth(HOUSE, made), True)
            self.assertEqual(read(total, values), read(formula, values) + read(other, values))
            self.assertEqual(read(made, values), read(formula, values) * read(other, values))

    def test_order_of_monomials_of_worths(self):
        ordered = [(), ((1, 1),), ((1, 1), (2, 1)), ((1, 2),), ((2, 1),)]
        for at in range(len(ordered) - 1):
            low, high = (ordered[at], 1), (ordered[at + 1], 1)
            self.assertIs(is_worth(HOUSE, (low, high)), True)
            self.assertIs(is_worth(HOUSE, (high, low)), False)
            self.assertIs(is_worth(HOUSE, (low, low)), False)


if __name__ == "__main__":
    unittest.main()
