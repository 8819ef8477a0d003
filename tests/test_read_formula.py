"""How formulas are read in houses: [11]."""

import copy
import itertools
import random
import unittest

from anyworth.formulas import plus_formulas, read_formula, tag_formula, times_formulas, without_tags
from anyworth.houses import is_worth, one, plus, times, zero
from tests.polynomial import plainly_read, some_formula, tag
from tests.samples import BIG, WORTHS, has_plain_parts


class ReadFormulaTest(unittest.TestCase):
    def test_zero_one_and_tags(self):
        for house, worths in WORTHS.items():
            told = dict(enumerate(worths, 1))
            self.assertEqual(read_formula(house, (), told), zero(house))
            self.assertEqual(read_formula(house, (), {}), zero(house))
            self.assertEqual(read_formula(house, (((), 1),), told), one(house))
            self.assertEqual(read_formula(house, (((), 1),), {}), one(house))
            for number, worth in told.items():
                self.assertEqual(read_formula(house, tag_formula(number), told), worth)
                self.assertEqual(read_formula(house, tag_formula(BIG + number), {BIG + number: worth}), worth)

    def test_tags_without_a_worth_are_zero(self):
        formula = (((), 1), (((1, 1), (2, 1)), 1), (((2, 2),), 1), (((3, 1),), 1))
        for house, worths in WORTHS.items():
            for worth in worths:
                self.assertEqual(read_formula(house, tag(2), {1: worth}), zero(house))
                self.assertEqual(read_formula(house, formula, {1: worth}), one(house))
                expected = plus(house, one(house), worth)
                self.assertEqual(read_formula(house, formula, {3: worth}), expected)

    def test_worths_of_other_tags_do_not_matter(self):
        formula = (((), 1), (((1, 1), (2, 1)), 3), (((2, 2),), 1))
        for house, worths in WORTHS.items():
            told = {1: worths[-1], 2: worths[1 % len(worths)]}
            expected = read_formula(house, formula, told)
            for worth in worths:
                self.assertEqual(read_formula(house, formula, {**told, 3: worth, BIG: worth}), expected)

    def test_by_one_sum_and_product_after_the_other(self):
        chance = random.Random(11)
        for house, worths in WORTHS.items():
            for _ in range(12):
                told = {number: chance.choice(worths) for number in (1, 2, 3) if chance.randrange(4)}
                formula = some_formula(chance, (1, 2, 3), 4, 2)
                worth = read_formula(house, formula, told)
                self.assertEqual(worth, plainly_read(house, formula, told))
                self.assertIs(is_worth(house, worth), True)
                self.assertTrue(has_plain_parts(worth))

    def test_sums_and_products(self):
        chance = random.Random(12)
        for house, worths in WORTHS.items():
            for _ in range(12):
                told = {number: chance.choice(worths) for number in (1, 2, 3) if chance.randrange(4)}
                a, b = some_formula(chance, (1, 2, 3), 2, 2), some_formula(chance, (1, 2, 3), 2, 2)
                low, high = read_formula(house, a, told), read_formula(house, b, told)
                self.assertEqual(read_formula(house, plus_formulas(a, b), told), plus(house, low, high))
                self.assertEqual(read_formula(house, times_formulas(a, b), told), times(house, low, high))

    def test_in_the_house_of_formulas(self):
        formula = (((), 2), (((1, 1), (2, 2)), 3))
        told = {1: tag(9), 2: plus_formulas(tag(7), (((), 1),))}
        expected = (((), 2), (((7, 1), (9, 1)), 6), (((7, 2), (9, 1)), 3), (((9, 1),), 3))
        self.assertEqual(read_formula(("formulas",), formula, told), expected)
        for other in WORTHS[("formulas",)]:
            if all(number <= 5 for monomial, _ in other for number, _ in monomial):
                itself = {number: tag(number) for number in range(1, 6)}
                self.assertEqual(read_formula(("formulas",), other, itself), other)

    def test_exponents(self):
        for exponent in (1, 2, 3, 7, 59, 60):
            formula = ((((4, exponent),), 1),)
            self.assertEqual(read_formula(("counts",), formula, {4: 3}), 3 ** exponent)
            self.assertEqual(read_formula(("modulo", 7), formula, {4: 3}), 3 ** exponent % 7)
            self.assertEqual(read_formula(("least",), formula, {4: 3}), 3 * exponent)
            self.assertEqual(read_formula(("prices", 2), formula, {4: ((0, 1), (1, 0))}),
                             tuple((k, exponent - k) for k in range(exponent + 1)))
            self.assertEqual(read_formula(("sums",), formula, {4: (0, 2)}), tuple(range(0, 2 * exponent + 1, 2)))
            self.assertEqual(read_formula(("families",), formula, {4: (1, 2, 3)}), (1, 2, 3))
            self.assertEqual(read_formula(("yes",), formula, {4: 1}), 1)
            self.assertEqual(read_formula(("divisors", 12), formula, {4: 6}), 6)

    def test_exponents_of_several_tags(self):
        formula = ((((1, 60), (2, 59), (5, 1)), 1), (((1, 1), (2, 60)), 1))
        self.assertEqual(read_formula(("counts",), formula, {1: 2, 2: 3, 5: 5}),
                         2 ** 60 * 3 ** 59 * 5 + 2 * 3 ** 60)
        self.assertEqual(read_formula(("least",), formula, {1: 2, 2: 3, 5: 5}), 2 + 180)

    def test_coefficients(self):
        for coefficient in (1, 2, 3, 60, 61, 999999, 1000000):
            formula = ((((4, 1),), coefficient),)
            self.assertEqual(read_formula(("counts",), formula, {4: 3}), 3 * coefficient)
            self.assertEqual(read_formula(("capped", 1000), formula, {4: 3}), min(1000, 3 * coefficient))
            self.assertEqual(read_formula(("modulo", 97), formula, {4: 3}), 3 * coefficient % 97)
            self.assertEqual(read_formula(("least",), formula, {4: 3}), 3)
            self.assertEqual(read_formula(("prices", 2), formula, {4: ((1, 4), (2, 2))}), ((1, 4), (2, 2)))
            self.assertEqual(read_formula(("sums",), formula, {4: (3, 5)}), (3, 5))
            self.assertEqual(read_formula(("families",), formula, {4: (3, 4, 7)}), (3, 4, 7))
            self.assertEqual(read_formula(("formulas",), formula, {4: tag(3)}), ((((3, 1),), coefficient),))
            self.assertEqual(read_formula(("pair", ("counts",), ("yes",)), formula, {4: (3, 1)}), (3 * coefficient, 1))

    def test_the_dict_and_the_formula_are_as_they_were(self):
        formula = (((), 2), (((1, 2), (2, 1)), 3), (((4, 1),), 1))
        for house, worths in WORTHS.items():
            told = {1: worths[0], 2: worths[-1], 9: worths[0]}
            before = copy.deepcopy(told)
            result = read_formula(house, formula, told)
            self.assertEqual(told, before)
            self.assertEqual(list(told), list(before))
            told.clear()
            self.assertEqual(read_formula(house, formula, before), result)

    def test_without_tags_is_read_as_if_they_had_no_worth(self):
        chance = random.Random(13)
        for house, worths in WORTHS.items():
            for tags in itertools.chain([[]], itertools.combinations([1, 2, 3], 1), [[1, 3]]):
                told = {number: chance.choice(worths) for number in (1, 2, 3)}
                kept = {number: worth for number, worth in told.items() if number not in tags}
                formula = some_formula(chance, (1, 2, 3), 4, 2)
                expected = read_formula(house, formula, kept)
                self.assertEqual(read_formula(house, without_tags(formula, list(tags)), told), expected)

    def test_many_monomials(self):
        formula = tuple((((number, 60),), 1000000) for number in range(1, 2001))
        told = {number: 1 for number in range(1, 2001)}
        self.assertEqual(read_formula(("counts",), formula, told), 2000 * 1000000)
        self.assertEqual(read_formula(("least",), formula, told), 60)
        steps = {number: (number,) for number in range(1, 2001)}
        self.assertEqual(read_formula(("sums",), formula, steps), tuple(range(60, 120001, 60)))
        rows = {number: ((number, 2001 - number),) for number in range(1, 2001)}
        self.assertEqual(len(read_formula(("prices", 2), formula, rows)), 2000)


if __name__ == "__main__":
    unittest.main()
