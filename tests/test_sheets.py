"""Sheets of atoms, their products and their sums: [31], [32]."""

import copy
import itertools
import random
import unittest

from anyworth.houses import is_worth, multiple, one, plus, sum_of, times, zero
from anyworth.plainly import store_worth
from anyworth.sheets import atom_sheet, summed_out, times_sheets
from anyworth.values import sorted_rows
from tests.polynomial import tag
from tests.samples import WORTHS
from tests.terms import val, var

COUNTS = ("counts",)
X, Y, Z = var("x"), var("y"), var("z")


class SheetCase(unittest.TestCase):
    def check_form(self, house, sheet):
        """Check that this is a sheet of the house."""
        columns, entries = sheet
        self.assertIs(type(sheet), tuple)
        self.assertIs(type(columns), tuple)
        self.assertIs(type(entries), tuple)
        self.assertEqual(list(columns), sorted(set(columns)))
        rows = [row for row, _ in entries]
        self.assertEqual(rows, sorted_rows(rows))
        for row, worth in entries:
            self.assertIs(type(row), tuple)
            self.assertEqual(len(row), len(columns))
            self.assertIs(is_worth(house, worth), True)
            self.assertNotEqual(worth, zero(house))


class AtomTest(SheetCase):
    def check(self, house, facts, atom, columns, *entries):
        before = copy.deepcopy(facts)
        sheet = atom_sheet(house, facts, atom)
        self.assertEqual(sheet, (columns, entries))
        self.check_form(house, sheet)
        self.assertEqual(facts, before)

    FACTS = [("e", (2, "a"), 3), ("e", (1, "b"), 5), ("e", ("c", "c"), 7), ("e", (1, "a"), 11), ("f", (1, "a"), 13),
             ("e", (1,), 17), ("e", (), 19), ("e", (1, "a", 2), 23)]

    def test_columns_in_alphabetical_order(self):
        self.check(COUNTS, self.FACTS, ("e", (X, Y)), ("x", "y"), ((1, "a"), 11), ((1, "b"), 5), ((2, "a"), 3),
                   (("c", "c"), 7))
        self.check(COUNTS, self.FACTS, ("e", (Y, X)), ("x", "y"), (("a", 1), 11), (("a", 2), 3), (("b", 1), 5),
                   (("c", "c"), 7))
        self.check(COUNTS, self.FACTS, ("e", (var("b"), var("aa"))), ("aa", "b"), (("a", 1), 11), (("a", 2), 3),
                   (("b", 1), 5), (("c", "c"), 7))

    def test_rows_in_ascending_order(self):
        rows = [(-3,), (0,), (9,), (10,), ("a",), ("aa",), ("ab",), ("b",)]
        for seed in range(5):
            facts = [("a", row, 1) for row in rows]
            random.Random(seed).shuffle(facts)
            self.check(COUNTS, facts, ("a", (X,)), ("x",), *[(row, 1) for row in rows])

    def test_a_variable_twice(self):
        self.check(COUNTS, self.FACTS, ("e", (X, X)), ("x",), (("c",), 7))
        facts = [("t", (1, 2, 1), 3), ("t", (2, 2, 1), 5), ("t", (2, 1, 2), 7)]
        self.check(COUNTS, facts, ("t", (Y, X, Y)), ("x", "y"), ((1, 2), 7), ((2, 1), 3))
        self.check(COUNTS, facts, ("t", (X, X, Y)), ("x", "y"), ((2, 1), 5))
        self.check(COUNTS, facts, ("t", (X, X, X)), ("x",))

    def test_values(self):
        self.check(COUNTS, self.FACTS, ("e", (val(1), X)), ("x",), (("a",), 11), (("b",), 5))
        self.check(COUNTS, self.FACTS, ("e", (X, val("a"))), ("x",), ((1,), 11), ((2,), 3))
        self.check(COUNTS, self.FACTS, ("e", (val(2), val("a"))), (), ((), 3))
        self.check(COUNTS, self.FACTS, ("e", (val(2), val("b"))), ())
        self.check(COUNTS, self.FACTS, ("e", (val("x"), X)), ("x",))

    def test_rows_of_another_length(self):
        self.check(COUNTS, self.FACTS, ("e", (X,)), ("x",), ((1,), 17))
        self.check(COUNTS, self.FACTS, ("e", ()), (), ((), 19))
        self.check(COUNTS, self.FACTS, ("e", (X, Y, Z)), ("x", "y", "z"), ((1, "a", 2), 23))
        self.check(COUNTS, self.FACTS, ("e", (X,) * 4), ("x",))
        self.check(COUNTS, self.FACTS, ("f", (X,)), ("x",))

    def test_no_facts(self):
        for house in WORTHS:
            self.check(house, [], ("e", (X, Y)), ("x", "y"))
            self.check(house, [], ("e", ()), ())
        self.check(COUNTS, self.FACTS, ("g", (Y, X)), ("x", "y"))

    def test_facts_with_the_same_row(self):
        facts = [("a", (1,), 2), ("a", (2,), 5), ("a", (1,), 3)]
        self.check(COUNTS, facts, ("a", (X,)), ("x",), ((1,), 5), ((2,), 5))
        facts = [("a", (1,), tag(1)), ("a", (1,), tag(2))]
        self.check(("formulas",), facts, ("a", (X,)), ("x",), ((1,), ((((1, 1),), 1), (((2, 1),), 1))))

    def test_no_worth_that_is_zero(self):
        facts = [("a", (1,), 2), ("a", (2,), 0), ("a", (1,), 4), ("a", (3,), 5)]
        self.check(("modulo", 6), facts, ("a", (X,)), ("x",), ((3,), 5))
        self.check(("modulo", 6), facts, ("a", (val(1),)), ())
        self.check(COUNTS, facts, ("a", (X,)), ("x",), ((1,), 6), ((3,), 5))
        self.check(("least",), [("a", (1,), None), ("a", (2,), 0)], ("a", (X,)), ("x",), ((2,), 0))
        self.check(("divisors", 12), [("a", (1,), 1), ("a", (2,), 12)], ("a", (X,)), ("x",), ((2,), 12))

    def test_houses_of_every_form(self):
        for house, worths in WORTHS.items():
            facts = [("a", (at, at % 2), worth) for at, worth in enumerate(worths)]
            facts += [("a", (0, 0), worths[-1]), ("b", (0, 0), worths[0])]
            columns, entries = atom_sheet(house, facts, ("a", (Y, X)))
            self.check_form(house, (columns, entries))
            found = dict(entries)
            for (row, _) in entries:
                self.assertIn(row[::-1], [values for name, values, _ in facts])
            for name, (first, second), _ in facts[:-1]:
                worth = store_worth(house, facts, "a", (first, second))
                self.assertEqual(found.get((second, first), zero(house)), worth)


class ProductTest(SheetCase):
    def check(self, house, sheet, other, expected):
        before = copy.deepcopy((sheet, other))
        for product in [times_sheets(house, sheet, other), times_sheets(house, other, sheet)]:
            self.assertEqual(product, expected)
            self.check_form(house, product)
        self.assertEqual((sheet, other), before)

    def test_a_common_column(self):
        sheet = (("x", "y"), ((("a", 1), 2), (("a", 2), 3), (("b", 1), 5)))
        other = (("y", "z"), (((1, "q"), 7), ((1, "r"), 11), ((3, "q"), 13)))
        self.check(COUNTS, sheet, other, (("x", "y", "z"), ((("a", 1, "q"), 14), (("a", 1, "r"), 22),
                                                            (("b", 1, "q"), 35),
                                                           (("b", 1, "r"), 55))))

    def test_columns_between_the_others(self):
        sheet = (("b", "d"), (((1, 2), 3), ((5, 2), 7)))
        other = (("a", "c", "d"), (((9, 8, 2), 11), ((7, 8, 2), 13), ((9, 8, 3), 17)))
        self.check(COUNTS, sheet, other, (("a", "b", "c", "d"), (((7, 1, 8, 2), 39), ((7, 5, 8, 2), 91),
                                                                 ((9, 1, 8, 2), 33), ((9, 5, 8, 2), 77))))

    def test_the_same_columns(self):
        sheet = (("x",), (((1,), 2), ((2,), 3), (("a",), 5)))
        other = (("x",), (((2,), 7), ((3,), 11), (("a",), 13)))
        self.check(COUNTS, sheet, other, (("x",), (((2,), 21), (("a",), 65))))
        self.check(COUNTS, sheet, sheet, (("x",), (((1,), 4), ((2,), 9), (("a",), 25))))

    def test_no_common_columns(self):
        sheet, other = (("y",), (((1,), 2), (("a",), 3))), (("x",), (((4,), 5), (("b",), 7)))
        self.check(COUNTS, sheet, other, (("x", "y"), (((4, 1), 10), ((4, "a"), 15), (("b", 1), 14), (("b", "a"), 21))))

    def test_without_columns_or_entries(self):
        sheet = (("x",), (((1,), 2), (("a",), 3)))
        self.check(COUNTS, sheet, ((), (((), 5),)), (("x",), (((1,), 10), (("a",), 15))))
        self.check(COUNTS, sheet, ((), ()), (("x",), ()))
        self.check(COUNTS, sheet, (("x",), ()), (("x",), ()))
        self.check(COUNTS, sheet, (("w", "y"), ()), (("w", "x", "y"), ()))
        self.check(COUNTS, ((), (((), 5),)), ((), (((), 7),)), ((), (((), 35),)))
        self.check(COUNTS, ((), ()), ((), ()), ((), ()))

    def test_products_that_are_zero(self):
        sheet, other = (("x",), (((1,), 2), ((2,), 3))), (("x",), (((1,), 3), ((2,), 5)))
        self.check(("modulo", 6), sheet, other, (("x",), (((2,), 3),)))
        self.check(("divisors", 30), sheet, other, (("x",), ()))
        self.check(("pair", ("yes",), ("yes",)), (("x",), (((1,), (1, 0)), ((2,), (1, 1)))),
                   (("x",), (((1,), (0, 1)), ((2,), (1, 0)))), (("x",), (((2,), (1, 0)),)))

    def test_houses_of_every_form(self):
        for house, worths in WORTHS.items():
            good = [worth for worth in worths if worth != zero(house)]
            sheet = (("x", "y"), tuple(((at, at % 2), worth) for at, worth in enumerate(good)))
            other = (("y", "z"), tuple((pair, worth) for pair,
                                       worth in zip([(0, 5), (0, "a"), (1, 5), (1, "b")], good)))
            product = times_sheets(house, sheet, other)
            self.check_form(house, product)
            self.assertEqual(product[0], ("x", "y", "z"))
            found = dict(product[1])
            for ((x, y), worth), ((told, z), factor) in itertools.product(sheet[1], other[1]):
                expected = times(house, worth, factor) if y == told else zero(house)
                self.assertEqual(found.pop((x, y, z), zero(house)) if y == told else zero(house), expected)
            self.assertEqual(found, {})


class SumTest(SheetCase):
    def check(self, house, sheet, column, expected):
        before = copy.deepcopy(sheet)
        found = summed_out(house, sheet, column)
        self.assertEqual(found, expected)
        self.check_form(house, found)
        self.assertEqual(sheet, before)

    SHEET = (("x", "y", "z"), (((1, 1, 2), 3), ((1, 2, 2), 5), ((2, 1, "a"), 7), (("a", 1, 2), 11)))

    def test_each_column(self):
        self.check(COUNTS, self.SHEET, "x", (("y", "z"), (((1, 2), 14), ((1, "a"), 7), ((2, 2), 5))))
        self.check(COUNTS, self.SHEET, "y", (("x", "z"), (((1, 2), 8), ((2, "a"), 7), (("a", 2), 11))))
        self.check(COUNTS, self.SHEET, "z", (("x", "y"), (((1, 1), 3), ((1, 2), 5), ((2, 1), 7), (("a", 1), 11))))

    def test_the_last_column(self):
        self.check(COUNTS, (("x",), (((1,), 2), ((2,), 3))), "x", ((), (((), 5),)))
        self.check(COUNTS, (("x",), ()), "x", ((), ()))
        self.check(COUNTS, (("x", "y"), ()), "x", (("y",), ()))

    def test_rows_in_ascending_order(self):
        sheet = (("x", "y"), (((1, "b"), 1), ((1, "c"), 1), ((2, 10), 1), ((2, "a"), 1), (("a", 9), 1), (("b", -1), 1)))
        self.check(COUNTS, sheet, "x", (("y",), (((-1,), 1), ((9,), 1), ((10,), 1), (("a",), 1), (("b",), 1),
                                                 (("c",), 1))))

    def test_sums_that_are_zero(self):
        sheet = (("x", "y"), (((1, 1), 2), ((1, 2), 3), ((2, 1), 4), ((2, 2), 1)))
        self.check(("modulo", 6), sheet, "x", (("y",), (((2,), 4),)))
        self.check(("modulo", 5), sheet, "y", (("x",), ()))

    def test_houses_of_every_form(self):
        for house, worths in WORTHS.items():
            good = [worth for worth in worths if worth != zero(house)]
            sheet = (("x", "y"), tuple(((at % 2, at), worth) for at,
                                       worth in sorted(enumerate(good), key=lambda p: p[0] % 2)))
            found = summed_out(house, sheet, "y")
            self.check_form(house, found)
            for x in range(2):
                self.assertEqual(dict(found[1]).get((x,), zero(house)), sum_of(house, good[x::2]))
            found = summed_out(house, sheet, "x")
            self.assertEqual(found, (("y",), tuple(((at,), worth) for at, worth in enumerate(good))))
            twice = (("x",), tuple(((at,), worth) for at, worth in enumerate(good[:1] * 5)))
            total = multiple(house, good[0], 5) if good else zero(house)
            expected = (((), total),) if total != zero(house) else ()
            self.assertEqual(summed_out(house, twice, "x"), ((), expected))

    def test_a_sum_spreads_over_a_product(self):
        for house, worths in WORTHS.items():
            good = [worth for worth in worths if worth != zero(house)][:3]
            sheet = (("x", "y"), tuple(((at // 2, at % 2), worth) for at, worth in enumerate(good)))
            other = (("x",), tuple(((at,), worth) for at, worth in enumerate(good[::-1])))
            first = times_sheets(house, summed_out(house, sheet, "y"), other)
            self.assertEqual(summed_out(house, times_sheets(house, sheet, other), "y"), first)
            unit = ((), (((), one(house)),)) if one(house) != zero(house) else ((), ())
            self.assertEqual(times_sheets(house, sheet, unit), sheet)
            self.assertEqual(plus(house, zero(house), one(house)), one(house))


if __name__ == "__main__":
    unittest.main()
