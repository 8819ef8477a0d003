"""The examples of the document."""

import unittest

from anyworth.formulas import read_formula
from anyworth.houses import kinds_of, plus, times
from anyworth.reducing import reduced
from anyworth.tabled import fault_of


class ExampleTest(unittest.TestCase):
    def test_least(self):
        self.assertEqual((plus(("least",), 3, None), times(("least",), 3, 4)), (3, 7))

    def test_prices(self):
        self.assertEqual(plus(("prices", 2), ((1, 4),), ((2, 2), (3, 5))), ((1, 4), (2, 2)))

    def test_families(self):
        self.assertEqual(times(("families",), (1, 2, 3), (4,)), (5, 6, 7))

    def test_kinds(self):
        self.assertEqual(kinds_of(("least",)), ("all", "once", "prices"))

    def test_fault(self):
        self.assertEqual(fault_of(("table", 1, ((0, 1), (1, 1)), ((0, 0), (1, 1)))), ("times turns", 0, 1, 0))

    def test_read_formula(self):
        formula = ((((1, 1), (2, 1)), 2), (((3, 2),), 1))
        self.assertEqual(read_formula(("counts",), formula, {1: 2, 2: 5, 3: 3}), 29)

    def test_reduced(self):
        self.assertEqual(reduced("prices", ((((1, 1),), 2), (((1, 1), (2, 1)), 1))), ((((1, 1),), 1),))


if __name__ == "__main__":
    unittest.main()
