"""The eight equations of a house, for worths of every form: [4]."""

import itertools
import unittest

from anyworth.houses import is_worth, one, plus, times, zero
from tests.samples import WORTHS, has_plain_parts, nested_left, nested_right, worth_left, worth_right


def deep_houses():
    """Return nested houses with some of their worths."""
    found = {}
    for house, worths in WORTHS.items():
        if house[0] != "pair":
            found[nested_left(house, 6)] = [worth_left(worth, 6) for worth in worths[:4]]
            found[nested_right(house, 6)] = [worth_right(worth, 6) for worth in worths[:4]]
    return found


class EquationTest(unittest.TestCase):
    def check_one(self, house, a):
        nothing, unit = zero(house), one(house)
        self.assertEqual(plus(house, nothing, a), a)
        self.assertEqual(times(house, unit, a), a)
        self.assertEqual(times(house, nothing, a), nothing)

    def check_two(self, house, a, b):
        total, made = plus(house, a, b), times(house, a, b)
        self.assertEqual(total, plus(house, b, a))
        self.assertEqual(made, times(house, b, a))
        for result in (total, made):
            self.assertIs(is_worth(house, result), True)
            self.assertTrue(has_plain_parts(result))

    def check_three(self, house, a, b, c):
        self.assertEqual(plus(house, plus(house, a, b), c), plus(house, a, plus(house, b, c)))
        self.assertEqual(times(house, times(house, a, b), c), times(house, a, times(house, b, c)))
        spread = plus(house, times(house, a, b), times(house, a, c))
        self.assertEqual(times(house, a, plus(house, b, c)), spread)

    def check(self, house, worths):
        with self.subTest(house=house):
            self.assertIs(is_worth(house, zero(house)), True)
            self.assertIs(is_worth(house, one(house)), True)
            for a in worths:
                self.check_one(house, a)
            for a, b in itertools.product(worths, repeat=2):
                self.check_two(house, a, b)
            for a, b, c in itertools.product(worths, repeat=3):
                self.check_three(house, a, b, c)

    def test_the_sample_worths_of_each_form(self):
        for house, worths in WORTHS.items():
            self.check(house, worths)

    def test_sums_and_products_of_the_sample_worths(self):
        for house, worths in WORTHS.items():
            made = [plus(house, a, b) for a, b in itertools.combinations(worths, 2)]
            made += [times(house, a, b) for a, b in itertools.combinations(worths, 2)]
            self.check(house, made[:6] + worths[-1:])

    def test_nested_pairs(self):
        for house, worths in deep_houses().items():
            self.check(house, worths)

    def test_all_small_houses(self):
        for number in range(1, 6):
            self.check(("capped", number), range(number + 1))
            self.check(("modulo", number), range(number))
            self.check(("chain", number), range(number + 1))
        for number in (1, 8, 30):
            self.check(("divisors", number), [worth for worth in range(1, number + 1) if number % worth == 0])


if __name__ == "__main__":
    unittest.main()
