"""The reduced forms of formulas: [12], [13]."""

import itertools
import random
import unittest

from anyworth.formulas import is_formula, plus_formulas, read_formula, times_formulas
from anyworth.houses import kinds_of
from anyworth.reducing import reduced
from tests.polynomial import KINDS, each_once, plainly_reduced, some_formula, tag
from tests.samples import BIG, WORTHS, has_plain_parts

T1, T2, T3, T4 = ((1, 1),), ((2, 1),), ((3, 1),), ((4, 1),)
T12, T13, T23, T34 = ((1, 1), (2, 1)), ((1, 1), (3, 1)), ((2, 1), (3, 1)), ((3, 1), (4, 1))
T123, T234 = ((1, 1), (2, 1), (3, 1)), ((2, 1), (3, 1), (4, 1))


class ReducedTest(unittest.TestCase):
    def check(self, formula, once, sets, prices, yes):
        self.assertEqual(reduced("all", formula), formula)
        self.assertEqual(reduced("once", formula), once)
        self.assertEqual(reduced("sets", formula), sets)
        self.assertEqual(reduced("prices", formula), prices)
        self.assertEqual(reduced("yes", formula), yes)

    def test_zero_one_and_a_tag(self):
        for formula in ((), (((), 1),), tag(1), tag(BIG)):
            self.check(formula, formula, formula, formula, formula)

    def test_coefficients(self):
        self.check((((), 5),), each_once(()), each_once(()), each_once(()), each_once(()))
        self.check(((T1, 2),), each_once(T1), each_once(T1), each_once(T1), each_once(T1))
        self.check(((T1, BIG), (T2, 1)), each_once(T1, T2), each_once(T1, T12, T2), each_once(T1, T2),
                   each_once(T1, T2))

    def test_exponents(self):
        square, cube = ((1, 2),), ((1, 3),)
        self.check(each_once(square), each_once(square), each_once(T1), each_once(square), each_once(T1))
        self.check(((cube, 3), (square, 2)), each_once(square, cube), each_once(T1), each_once(square), each_once(T1))
        mixed, other = ((1, 60), (2, 1)), ((1, 1), (2, 60))
        self.check(each_once(mixed, other), each_once(mixed, other), each_once(T12), each_once(mixed, other),
                   each_once(T12))

    def test_monomials_that_divide_each_other(self):
        formula = each_once(T1, T12, T123, T23)
        self.check(formula, formula, formula, each_once(T1, T23), each_once(T1, T23))
        formula = ((((1, 1), (2, 2)), 3), (((1, 2), (2, 1)), 1), (((1, 2), (2, 2)), 1))
        self.check(formula, each_once(*[monomial for monomial, _ in formula]), each_once(T12),
                   each_once(((1, 1), (2, 2)), ((1, 2), (2, 1))), each_once(T12))
        # The one with the greater exponent is not divided by the other one's tags alone.
        formula = each_once(((1, 1), (2, 1)), ((1, 3),))
        self.check(formula, formula, each_once(T1, T12), formula, each_once(T1))
        formula = each_once(((1, 1), (2, 1)), ((1, 1), (3, 1)), ((2, 1),))
        self.check(formula, formula, each_once(T12, T123, T13, T2), each_once(T13, T2), each_once(T13, T2))

    def test_the_empty_monomial(self):
        formula = (((), 2), (((1, 1),), 1), (((1, 2), (2, 1)), 1), (((2, 1),), 4))
        self.check(formula, each_once((), T1, ((1, 2), (2, 1)), T2), each_once((), T1, T12, T2), each_once(()),
                   each_once(()))

    def test_tags_together(self):
        self.check(each_once(T1, T2), each_once(T1, T2), each_once(T1, T2, T12), each_once(T1, T2), each_once(T1, T2))
        self.assertEqual(reduced("sets", each_once(T12, T34)), each_once(T12, T34, ((1, 1), (2, 1), (3, 1), (4, 1))))
        self.assertEqual(reduced("sets", each_once(T12, T23)), each_once(T12, T23, T123))
        self.assertEqual(reduced("sets", each_once(T1, T2, T3)), each_once(T1, T2, T3, T12, T13, T23, T123))
        self.assertEqual(reduced("sets", each_once((), T1, T3)), each_once((), T1, T3, T13))
        # Three that meet only when two of them were put together.
        steps = reduced("sets", each_once(T1, T23, T4))
        self.assertEqual(steps, each_once(T1, T123, ((1, 1), (2, 1), (3, 1), (4, 1)), ((1, 1), (4, 1)), T23, T234, T4))

    def test_twelve_tags(self):
        singles = each_once(*[((number, 1),) for number in range(1, 13)])
        closed = reduced("sets", singles)
        expected = [tuple((number, 1) for number in chosen)
                    for size in range(1, 13)
                    for chosen in itertools.combinations(range(1, 13), size)]
        self.assertEqual(closed, each_once(*expected))
        self.assertEqual(reduced("sets", closed), closed)
        self.assertEqual(reduced("yes", closed), singles)
        self.assertEqual(reduced("prices", closed), singles)
        pairs = each_once(*[((number, 1), (BIG + number, 1)) for number in range(1, 13)])
        self.assertEqual(len(reduced("sets", pairs)), 2 ** 12 - 1)

    def test_many_monomials(self):
        formula = each_once(*[((number, 2), (2001 - number, 1)) for number in range(1, 1001)])
        for kind in ("once", "prices"):
            self.assertEqual(reduced(kind, formula), formula)
        self.assertEqual(len(reduced("yes", formula)), 1000)
        doubled = plus_formulas(formula, tag(1))
        self.assertEqual(len(reduced("prices", doubled)), 1000)
        chain = each_once(*[((1, exponent),) for exponent in range(1, 61)])
        self.assertEqual(reduced("prices", chain), tag(1))

    def test_by_the_words_of_the_document(self):
        chance = random.Random(21)
        for _ in range(400):
            formula = some_formula(chance, (1, 2, 3, 4, 5), 7, 3)
            for kind in KINDS:
                result = reduced(kind, formula)
                self.assertEqual(result, plainly_reduced(kind, formula))
                self.assertIs(is_formula(result), True)
                self.assertTrue(has_plain_parts(result))
                self.assertEqual(reduced(kind, result), result)

    def test_sums_and_products(self):
        chance = random.Random(22)
        for _ in range(200):
            a, b = some_formula(chance), some_formula(chance)
            for kind in KINDS:
                low, high = reduced(kind, a), reduced(kind, b)
                self.assertEqual(reduced(kind, plus_formulas(a, b)), reduced(kind, plus_formulas(low, high)))
                self.assertEqual(reduced(kind, times_formulas(a, b)), reduced(kind, times_formulas(low, high)))

    def test_it_is_read_alike_in_houses_of_the_kind(self):
        chance = random.Random(23)
        for house, worths in WORTHS.items():
            for kind in kinds_of(house):
                for _ in range(12):
                    formula = some_formula(chance, (1, 2, 3), 5, 2)
                    told = {number: chance.choice(worths) for number in (1, 2, 3) if chance.randrange(5)}
                    expected = read_formula(house, formula, told)
                    self.assertEqual(read_formula(house, reduced(kind, formula), told), expected)


if __name__ == "__main__":
    unittest.main()
