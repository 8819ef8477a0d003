"""What is passed and what is returned, and the greatest worths: [2], [3]."""

import copy
import itertools
import unittest

from anyworth.houses import is_house, is_worth, kinds_of, multiple, one, plus, power, product_of, sum_of, times, zero
from anyworth.tabled import fault_of
from tests.samples import BAD_WORTHS, WORTHS, has_plain_parts


class UnchangedTest(unittest.TestCase):
    def test_results_are_made_of_tuples_numbers_and_none(self):
        for house, worths in WORTHS.items():
            results = [zero(house), one(house), sum_of(house, worths), product_of(house, worths)]
            results += [act(house, worth, 3) for act in (multiple, power) for worth in worths]
            results += [act(house, a, b) for act in (plus, times) for a, b in itertools.product(worths, repeat=2)]
            for result in results:
                self.assertTrue(has_plain_parts(result), (house, result))

    def test_checks_return_true_or_false(self):
        for house in WORTHS:
            self.assertIs(is_house(house), True)
            for worth in WORTHS[house] + BAD_WORTHS.get(house, []):
                self.assertIs(type(is_worth(house, worth)), bool)

    def test_kinds_and_faults_are_tuples(self):
        for house in WORTHS:
            self.assertIs(type(kinds_of(house)), tuple)
        self.assertIs(type(fault_of(("table", 0, (), ()))), tuple)
        fault = fault_of(("table", 0, ((0, 1), (0, 1)), ((0, 0), (0, 1))))
        self.assertIs(type(fault), tuple)
        self.assertEqual([type(item) for item in fault], [str, int, int, int])

    def test_a_list_that_was_passed_has_no_part_in_the_result(self):
        for house, worths in WORTHS.items():
            for act in (sum_of, product_of):
                for length in range(len(worths) + 1):
                    passed = list(worths[:length])
                    before = copy.deepcopy(passed)
                    result = act(house, passed)
                    self.assertEqual(passed, before)
                    passed.clear()
                    self.assertEqual(result, act(house, before))

    def test_the_same_call_gives_the_same_result_again(self):
        for house, worths in WORTHS.items():
            first = [plus(house, a, b) for a, b in itertools.product(worths, repeat=2)]
            self.assertEqual(first, [plus(house, a, b) for a, b in itertools.product(worths, repeat=2)])
            self.assertEqual((zero(house), one(house)), (zero(house), one(house)))


class GreatestTest(unittest.TestCase):
    def test_prices_with_two_thousand_rows(self):
        house = ("prices", 2)
        worth = tuple((k, 1999 - k) for k in range(2000))
        self.assertIs(is_worth(house, worth), True)
        self.assertIs(is_worth(house, worth[:-1] + ((2000, 1),)), False)
        self.assertEqual(plus(house, worth, ((0, 0),)), ((0, 0),))
        self.assertEqual(times(house, worth, ((1, 2),)), tuple((k + 1, 2001 - k) for k in range(2000)))

    def test_prices_with_forty_numbers(self):
        house = ("prices", 40)
        worth = tuple(tuple(1 if at == k else 0 for at in range(40)) for k in range(39, -1, -1))
        self.assertIs(is_worth(house, worth), True)
        square = times(house, worth, worth)
        self.assertEqual(len(square), 40 + 40 * 39 // 2)
        self.assertIs(is_worth(house, square), True)

    def test_sums_with_two_thousand_members(self):
        worth = tuple(range(2000))
        self.assertIs(is_worth(("sums",), worth), True)
        self.assertEqual(plus(("sums",), worth, worth), worth)
        self.assertEqual(times(("sums",), worth, worth), tuple(range(3999)))

    def test_families_with_two_thousand_members(self):
        worth = tuple(range(1024, 2048)) + tuple(range(3072, 4048))
        self.assertIs(is_worth(("families",), worth), False)
        worth = tuple(range(1024))
        self.assertIs(is_worth(("families",), worth), True)
        self.assertEqual(times(("families",), worth, worth), worth)
        self.assertEqual(plus(("families",), worth, (1024,)), tuple(range(2048)))

    def test_formulas_with_two_thousand_monomials(self):
        formula = tuple((((number, 60),), 1000000) for number in range(1, 2001))
        self.assertIs(is_worth(("formulas",), formula), True)
        doubled = tuple((monomial, 2000000) for monomial, _ in formula)
        self.assertEqual(plus(("formulas",), formula, formula), doubled)
        squared = times(("formulas",), formula, ((((1, 60),), 1),))
        self.assertEqual(len(squared), 2000)
        self.assertIs(is_worth(("formulas",), squared), True)

    def test_long_lists(self):
        formulas = [((((number, 1),), 1),) for number in range(1, 2001)]
        self.assertEqual(sum_of(("formulas",), formulas), tuple(formula[0] for formula in formulas))
        self.assertEqual(sum_of(("sums",), [(number,) for number in range(2000)]), tuple(range(2000)))
        self.assertEqual(product_of(("sums",), [(0, 1)] * 500), tuple(range(501)))


if __name__ == "__main__":
    unittest.main()
