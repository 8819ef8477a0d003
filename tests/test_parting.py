"""Partings of two formulas: [14], and [13] for what has none."""

import random
import unittest

from anyworth.formulas import plus_formulas, read_formula, times_formulas
from anyworth.houses import is_house, kinds_of
from anyworth.reducing import parting, reduced
from tests.polynomial import KINDS, are_worths, each_once, house_of_parting, some_formula, tag
from tests.samples import BIG, has_plain_parts

ONE = (((), 1),)


class PartingTest(unittest.TestCase):
    def check_parts(self, kind, formula, other):
        """Check that there is a parting and that it is right in both orders."""
        for left, right in ((formula, other), (other, formula)):
            house, worths = parting(kind, left, right)
            self.assertEqual(house, house_of_parting(kind, left, right))
            self.assertIs(is_house(house), True)
            self.assertIn(kind, kinds_of(house))
            self.assertIs(type(worths), tuple)
            tags = {number for monomial, _ in left + right for number, _ in monomial}
            self.assertEqual([number for number, _ in worths], sorted(tags))
            self.assertTrue(are_worths(house, [worth for _, worth in worths]))
            self.assertTrue(all(type(pair) is tuple and has_plain_parts(pair) for pair in worths))
            self.assertNotEqual(read_formula(house, left, dict(worths)), read_formula(house, right, dict(worths)))

    def check(self, formula, other, kinds):
        """Check that just these kinds have a parting."""
        for kind in KINDS:
            with self.subTest(kind=kind, formula=formula, other=other):
                if kind in kinds:
                    self.check_parts(kind, formula, other)
                else:
                    self.assertIsNone(parting(kind, formula, other))
                    self.assertIsNone(parting(kind, other, formula))

    def test_a_formula_and_itself(self):
        for formula in ((), ONE, (((), 3),), tag(1), tag(BIG), each_once((), ((1, 1), (2, 3)), ((4, 1),))):
            self.check(formula, formula, ())

    def test_without_tags(self):
        self.check((), ONE, KINDS)
        self.check((), (((), 9),), KINDS)
        self.check(ONE, (((), 2),), ("all",))
        self.assertEqual(parting("prices", (), ONE), (("prices", 1), ()))
        for kind in KINDS:
            self.assertEqual(parting(kind, (), ONE)[1], ())

    def test_a_tag_and_another_one(self):
        self.check(tag(1), tag(2), KINDS)
        self.check(tag(BIG), tag(BIG + 1), KINDS)
        self.check(tag(1), (), KINDS)
        self.check(tag(1), ONE, KINDS)

    def test_a_coefficient_alone(self):
        self.check(tag(1), ((((1, 1),), 2),), ("all",))
        self.check((((), 1), (((1, 1),), 999999)), (((), 1), (((1, 1),), 1000000)), ("all",))
        self.check((((), 1), (((3, 2),), 4)), (((), 2), (((3, 2),), 4)), ("all",))

    def test_an_exponent_alone(self):
        self.check(tag(1), each_once(((1, 2),)), ("all", "once", "prices"))
        self.check(each_once(((1, 59),)), each_once(((1, 60),)), ("all", "once", "prices"))
        self.check(each_once(((1, 1), (2, 3))), each_once(((1, 1), (2, 4))), ("all", "once", "prices"))
        self.check(each_once(((1, 2), (2, 1))), each_once(((1, 1), (2, 2))), ("all", "once", "prices"))
        self.check(each_once(((1, 1),), ((1, 2),)), tag(1), ("all", "once"))

    def test_numbers_that_are_zero_for_many_worths(self):
        # t times (t - 1) times (t - 2) and so on, in its halves above and below 0.
        coefficients = [1]
        for root in range(12):
            coefficients = [
                (coefficients[at - 1] if at > 0 else 0) - root * (coefficients[at] if at < len(coefficients) else 0)
                for at in range(len(coefficients) + 1)
            ]
        above = tuple((((1, at),) if at else (), c) for at, c in enumerate(coefficients) if c > 0)
        below = tuple((((1, at),) if at else (), -c) for at, c in enumerate(coefficients) if c < 0)
        above, below = tuple(sorted(above)), tuple(sorted(below))
        self.assertEqual(read_formula(("counts",), above, {1: 11}), read_formula(("counts",), below, {1: 11}))
        self.check_parts("all", above, below)
        mixed = times_formulas(above, tag(2)), times_formulas(below, tag(2))
        self.check_parts("all", *mixed)
        other = plus_formulas(times_formulas(above, tag(2)), below), plus_formulas(times_formulas(below, tag(2)), above)
        self.check_parts("all", *other)

    def test_exponents_that_weigh_as_much_as_another_tag(self):
        for exponent in range(2, 61):
            self.check(each_once(((1, exponent),)), tag(2), KINDS)
            self.check_parts("once", each_once(((7, exponent), (8, 1))), each_once(((8, 2),)))
        self.check(each_once(((1, 1), (3, 1))), each_once(((2, 2),)), KINDS)
        self.check(each_once(((1, 1), (3, 2)), ((2, 1),)), each_once(((2, 3),), ((2, 1),)), KINDS)

    def test_what_only_some_kinds_part(self):
        one_two = each_once(((1, 1),), ((2, 1),))
        with_both = each_once(((1, 1),), ((1, 1), (2, 1)), ((2, 1),))
        self.check(one_two, with_both, ("all", "once"))
        self.check(each_once(((1, 1),), ((1, 1), (2, 1))), tag(1), ("all", "once", "sets"))
        self.check(each_once((), ((1, 1),)), ONE, ("all", "once", "sets"))
        self.check(each_once(((1, 2),), ((1, 1), (2, 1)), ((2, 2),)), one_two, ("all", "once", "prices"))

    def test_what_is_under_another_one(self):
        shortest = each_once(((1, 1), (2, 1)), ((3, 1), (4, 1)))
        longer = each_once(((1, 1), (2, 1), (3, 1)), ((3, 1), (4, 1)))
        self.check(shortest, longer, KINDS)
        self.check(each_once(((1, 1), (2, 1)), ((2, 1), (3, 1))), each_once(((2, 1),)), KINDS)
        self.check(each_once(((1, 1), (2, 1), (3, 1))), each_once(((1, 1), (2, 1)), ((1, 1), (3, 1)), ((2, 1), (3, 1))),
                   KINDS)

    def test_many_tags(self):
        for many in (12, 40):
            singles = each_once(*[((number, 1),) for number in range(1, many + 1)])
            product = each_once(tuple((number, 1) for number in range(1, many + 1)))
            great = each_once(tuple((number, 60) for number in range(1, many + 1)))
            kinds = KINDS if many == 12 else ("all", "once", "prices", "yes")
            for kind in kinds:
                self.check_parts(kind, singles, product)
                self.check_parts(kind, singles, singles[1:])
                self.check_parts(kind, singles[:-1], product)
            for kind in ("all", "once", "prices"):
                self.check_parts(kind, product, great)
                self.check_parts(kind, great, great[:-1] + (((great[0][0][:-1] + ((many, 59),)), 1),))
        house, worths = parting("prices", singles, product)
        self.assertEqual(house, ("prices", 40))
        self.assertEqual(len(worths), 40)

    def test_tags_that_stand_in_both_alike(self):
        shared = each_once(((5, 1), (7, 1)), ((9, 3),))
        for formula, other in ((tag(1), tag(2)), (tag(6), ()), (tag(10), each_once(((8, 1), (10, 1))))):
            self.check(plus_formulas(formula, shared), plus_formulas(other, shared), KINDS)

    def test_none_exactly_if_the_reduced_forms_are_equal(self):
        chance = random.Random(31)
        for _ in range(400):
            formula = some_formula(chance, (1, 2, 3), 4, 2)
            other = some_formula(chance, (1, 2, 3), 4, 2)
            if chance.randrange(2):
                other = plus_formulas(formula, times_formulas(other, formula))
            kinds = [kind for kind in KINDS if reduced(kind, formula) != reduced(kind, other)]
            self.check(formula, other, kinds)

    def test_many_monomials(self):
        chance = random.Random(32)
        formula = plus_formulas(some_formula(chance, range(1, 13), 300, 60), tag(1))
        for kind in ("all", "once", "prices", "yes"):
            self.check_parts(kind, formula, times_formulas(formula, tag(20)))
        long = tuple((((1, at % 60 + 1), (2, at // 60 + 1)), 1000000 - at) for at in range(2000))
        long = tuple(sorted(long))
        self.check_parts("all", long, long[:-1] + ((long[-1][0], 1),))
        self.check_parts("once", long, long[:-1])
        self.check_parts("prices", long, long[1:])


if __name__ == "__main__":
    unittest.main()
