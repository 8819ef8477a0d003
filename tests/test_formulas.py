"""Formulas, their sums, their products and their tags: [9], [10]."""

import random
import unittest

from anyworth.formulas import Formula, is_formula, plus_formulas, tag_formula, tags_of, times_formulas, without_tags
from anyworth.houses import one, plus, times, zero
from tests.polynomial import each_once, plainly_read, some_formula, tag
from tests.samples import BIG, has_plain_parts

HOUSE = ("formulas",)
ZERO = ()
ONE = (((), 1),)

FORMULAS = [
    ZERO,
    ONE,
    (((), 7),),
    tag(1),
    tag(BIG),
    (((), BIG), (((1, 1),), 2)),
    ((((1, 1),), 1), (((1, 1), (2, 1)), 1), (((1, 2),), 1), (((2, 1),), 1)),
    ((((1, 60), (BIG, 60)), 1000000), (((2, 1),), 3)),
    (((), 1), (((2, 1), (10, 3)), 4), (((9, 1),), 1), (((10, 1),), 5)),
]

NO_FORMULAS = [
    # Monomials out of order or twice.
    ((((1, 1),), 1), ((), 1)),
    ((((2, 1),), 1), (((1, 1),), 1)),
    ((((1, 2),), 1), (((1, 1),), 1)),
    ((((1, 1), (2, 1)), 1), (((1, 1),), 1)),
    ((((10, 1),), 1), (((9, 1),), 1)),
    ((((1, 1),), 1), (((1, 1),), 1)),
    ((((1, 1),), 1), (((1, 1),), 2)),
    (((), 1), ((), 1)),
    ((((1, 1),), 1), (((2, 1),), 1), (((1, 1),), 1)),
    # Tags out of order or twice.
    ((((2, 1), (1, 1)), 1),),
    ((((10, 1), (9, 1)), 1),),
    ((((1, 1), (1, 1)), 1),),
    ((((1, 1), (1, 2)), 1),),
    ((((1, 1), (3, 1), (2, 1)), 1),),
    # A tag, an exponent or a coefficient of 0 or below 0.
    ((((0, 1),), 1),),
    ((((-1, 1),), 1),),
    ((((-BIG, 1),), 1),),
    ((((0, 1), (1, 1)), 1),),
    ((((1, 0),), 1),),
    ((((1, -1),), 1),),
    ((((1, 1), (2, 0)), 1),),
    ((((1, 1),), 0),),
    ((((1, 1),), -1),),
    (((), 0),),
    (((), -BIG),),
    (((), 1), (((1, 1),), 0)),
]


class IsFormulaTest(unittest.TestCase):
    def test_formulas(self):
        for formula in FORMULAS:
            with self.subTest(formula=formula):
                self.assertIs(is_formula(formula), True)

    def test_what_is_no_formula(self):
        for formula in NO_FORMULAS:
            with self.subTest(formula=formula):
                self.assertIs(is_formula(formula), False)

    def test_a_formula_with_two_thousand_monomials(self):
        formula = tuple((((number, 60),), 1000000) for number in range(1, 2001))
        self.assertIs(is_formula(formula), True)
        self.assertIs(is_formula(formula[1:] + formula[:1]), False)


class TagTest(unittest.TestCase):
    def test_tag_formula(self):
        self.assertEqual(tag_formula(1), ((((1, 1),), 1),))
        self.assertEqual(tag_formula(BIG), ((((BIG, 1),), 1),))
        self.assertIs(is_formula(tag_formula(BIG)), True)

    def test_tags_of(self):
        self.assertEqual(tags_of(ZERO), ())
        self.assertEqual(tags_of(ONE), ())
        self.assertEqual(tags_of(tag(5)), (5,))
        self.assertEqual(tags_of(((((1, 1), (10, 2)), 1), (((2, 3),), 4))), (1, 2, 10))
        self.assertEqual(tags_of(((((3, 1),), 1), (((3, 1), (BIG, 1)), 1), (((3, 2),), 1))), (3, BIG))
        self.assertEqual(tags_of(((((9, 1),), 1), (((10, 1),), 1))), (9, 10))


class OperationTest(unittest.TestCase):
    def test_sums(self):
        self.assertEqual(plus_formulas(tag(2), tag(1)), each_once(((1, 1),), ((2, 1),)))
        self.assertEqual(plus_formulas(tag(1), tag(1)), ((((1, 1),), 2),))
        self.assertEqual(plus_formulas(ONE, ONE), (((), 2),))
        self.assertEqual(plus_formulas(tag(10), tag(9)), each_once(((9, 1),), ((10, 1),)))
        self.assertEqual(plus_formulas((((), 2), (((1, 1),), 3)), ((((1, 1),), 4), (((1, 2),), 5))),
                         (((), 2), (((1, 1),), 7), (((1, 2),), 5)))

    def test_products(self):
        self.assertEqual(times_formulas(tag(2), tag(1)), each_once(((1, 1), (2, 1))))
        self.assertEqual(times_formulas(tag(1), tag(1)), each_once(((1, 2),)))
        self.assertEqual(times_formulas(tag(BIG), tag(1)), each_once(((1, 1), (BIG, 1))))
        both = plus_formulas(tag(1), tag(2))
        self.assertEqual(times_formulas(both, both), ((((1, 1), (2, 1)), 2), (((1, 2),), 1), (((2, 2),), 1)))
        self.assertEqual(times_formulas((((), 2), (((1, 1),), 3)), ((((1, 2), (2, 1)), 5),)),
                         ((((1, 2), (2, 1)), 10), (((1, 3), (2, 1)), 15)))

    def test_zero_and_one(self):
        for formula in FORMULAS:
            self.assertEqual(plus_formulas(ZERO, formula), formula)
            self.assertEqual(plus_formulas(formula, ZERO), formula)
            self.assertEqual(times_formulas(ONE, formula), formula)
            self.assertEqual(times_formulas(formula, ONE), formula)
            self.assertEqual(times_formulas(ZERO, formula), ZERO)
            self.assertEqual(times_formulas(formula, ZERO), ZERO)
        self.assertEqual((zero(HOUSE), one(HOUSE)), (ZERO, ONE))

    def test_the_same_as_in_the_house(self):
        for formula in FORMULAS:
            for other in FORMULAS:
                total, made = plus_formulas(formula, other), times_formulas(formula, other)
                self.assertEqual(total, plus(HOUSE, formula, other))
                self.assertEqual(made, times(HOUSE, formula, other))
                self.assertEqual(total, plus_formulas(other, formula))
                self.assertEqual(made, times_formulas(other, formula))
                for result in (total, made):
                    self.assertIs(is_formula(result), True)
                    self.assertTrue(has_plain_parts(result))

    def test_three_formulas(self):
        chance = random.Random(7)
        for _ in range(200):
            a, b, c = some_formula(chance), some_formula(chance), some_formula(chance)
            self.assertEqual(plus_formulas(plus_formulas(a, b), c), plus_formulas(a, plus_formulas(b, c)))
            self.assertEqual(times_formulas(times_formulas(a, b), c), times_formulas(a, times_formulas(b, c)))
            self.assertEqual(times_formulas(a, plus_formulas(b, c)),
                             plus_formulas(times_formulas(a, b), times_formulas(a, c)))

    def test_what_sums_and_products_stand_for(self):
        chance = random.Random(8)
        numbers = {1: 3, 2: 10, 3: 101}
        for _ in range(200):
            a, b = some_formula(chance), some_formula(chance)
            low, high = plainly_read(("counts",), a, numbers), plainly_read(("counts",), b, numbers)
            self.assertEqual(plainly_read(("counts",), plus_formulas(a, b), numbers), low + high)
            self.assertEqual(plainly_read(("counts",), times_formulas(a, b), numbers), low * high)


class WithoutTagsTest(unittest.TestCase):
    FORMULA = (((), 4), (((1, 1),), 2), (((1, 1), (2, 3)), 1), (((2, 1), (10, 1)), 5), (((10, 2),), 3))

    def test_tags_that_stand_in_it(self):
        self.assertEqual(without_tags(self.FORMULA, [1]), (((), 4), (((2, 1), (10, 1)), 5), (((10, 2),), 3)))
        self.assertEqual(without_tags(self.FORMULA, [2]), (((), 4), (((1, 1),), 2), (((10, 2),), 3)))
        self.assertEqual(without_tags(self.FORMULA, [10, 1]), (((), 4),))
        self.assertEqual(without_tags(self.FORMULA, [2, 10, 1]), (((), 4),))
        self.assertEqual(without_tags(tag(BIG), [BIG]), ())

    def test_other_tags_tags_twice_and_no_tags(self):
        for tags in ([], [3], [3, 4, BIG], [0], [-1]):
            self.assertEqual(without_tags(self.FORMULA, tags), self.FORMULA)
        for tags in ([2, 2], [2, 7, 2], [7, 2]):
            self.assertEqual(without_tags(self.FORMULA, tags), without_tags(self.FORMULA, [2]))
        self.assertEqual(without_tags((), [1]), ())
        self.assertEqual(without_tags(ONE, [1]), ONE)

    def test_the_list_is_as_it_was(self):
        tags = [10, 2, 2]
        result = without_tags(self.FORMULA, tags)
        self.assertEqual(tags, [10, 2, 2])
        tags.append(1)
        self.assertEqual(result, (((), 4), (((1, 1),), 2)))
        self.assertTrue(has_plain_parts(result))

    def test_it_is_read_as_if_the_tags_had_no_worth(self):
        chance = random.Random(9)
        numbers = {1: 3, 2: 10, 3: 101, 4: 7}
        for _ in range(200):
            formula = some_formula(chance, (1, 2, 3, 4), 8)
            tags = [number for number in numbers if chance.randrange(2)]
            kept = {number: worth for number, worth in numbers.items() if number not in tags}
            result = without_tags(formula, tags)
            self.assertIs(is_formula(result), True)
            for left in (numbers, kept):
                self.assertEqual(plainly_read(("counts",), result, left), plainly_read(("counts",), formula, kept))


class FormulaTest(unittest.TestCase):
    def test_monomials(self):
        for formula in FORMULAS:
            self.assertEqual(Formula(formula).monomials, formula)

    def test_of_tag(self):
        self.assertIs(type(Formula.of_tag(3)), Formula)
        self.assertEqual(Formula.of_tag(3).monomials, tag(3))
        self.assertEqual(Formula.of_tag(BIG).monomials, tag(BIG))

    def test_signs(self):
        for formula in FORMULAS:
            for other in FORMULAS:
                a, b = Formula(formula), Formula(other)
                total, made = a + b, a * b
                self.assertIs(type(total), Formula)
                self.assertIs(type(made), Formula)
                self.assertEqual(total.monomials, plus_formulas(formula, other))
                self.assertEqual(made.monomials, times_formulas(formula, other))
                self.assertEqual((a.monomials, b.monomials), (formula, other))

    def test_an_object_with_itself(self):
        for formula in FORMULAS:
            a = Formula(formula)
            total, square = a + a, a * a
            self.assertIsNot(total, a)
            self.assertIsNot(square, a)
            self.assertEqual(total.monomials, plus_formulas(formula, formula))
            self.assertEqual(square.monomials, times_formulas(formula, formula))
            self.assertEqual(a.monomials, formula)

    def test_results_are_new_objects(self):
        a, nothing, unit = Formula(tag(1)), Formula(()), Formula(ONE)
        for result in (a + nothing, nothing + a, a * unit, unit * a):
            self.assertIsNot(result, a)
            self.assertEqual(result.monomials, tag(1))

    def test_tags_in_it(self):
        a = Formula((((), 4), (((1, 1), (7, 3)), 1), (((BIG, 2),), 5)))
        for number in (1, 7, BIG):
            self.assertIs(number in a, True)
        for number in (0, 2, 3, 4, 5, -1, BIG + 1):
            self.assertIs(number in a, False)
        self.assertIs(1 in Formula(()), False)
        self.assertIs(1 in Formula(ONE), False)
        self.assertIs(2 in Formula.of_tag(1) * Formula.of_tag(2) + Formula.of_tag(3), True)

    def test_it_is_read(self):
        worths = {1: 4, 2: 5}
        a = Formula.of_tag(1) * Formula.of_tag(2) + Formula.of_tag(2) + Formula.of_tag(3)
        self.assertEqual(a(("counts",), worths), 25)
        self.assertEqual(a(("least",), worths), 5)
        self.assertEqual(worths, {1: 4, 2: 5})
        self.assertEqual(a.monomials, ((((1, 1), (2, 1)), 1), (((2, 1),), 1), (((3, 1),), 1)))
        self.assertEqual(Formula(())(("least",), worths), None)
        self.assertEqual(Formula(ONE)(("prices", 2), {}), ((0, 0),))

    def test_methods_stand_in_the_class(self):
        for name in ("__init__", "__add__", "__mul__", "__contains__", "__call__", "monomials", "of_tag"):
            self.assertIn(name, vars(Formula))
        self.assertIs(type(vars(Formula)["monomials"]), property)
        self.assertIs(type(vars(Formula)["of_tag"]), staticmethod)


if __name__ == "__main__":
    unittest.main()
