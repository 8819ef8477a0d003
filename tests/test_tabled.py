"""Tables and their first fault: [8]."""

import itertools
import random
import unittest

from anyworth.houses import is_house, is_worth, one, plus, times, zero
from anyworth.tabled import fault_of
from tests.samples import (
    BIG,
    CHAIN_OF_SIX,
    FAMILIES_TABLE,
    MODULO_THREE,
    ONE_WORTH,
    PRICES_TABLE,
    SUMS_TABLE,
    YES,
)

GOOD = [ONE_WORTH, YES, MODULO_THREE, CHAIN_OF_SIX, SUMS_TABLE, FAMILIES_TABLE, PRICES_TABLE]


def square(size, item):
    return tuple(tuple(item(a, b) for b in range(size)) for a in range(size))


def changed(rows, a, b, item):
    """Return the rows with another item at index b of row a."""
    copies = [list(row) for row in rows]
    copies[a][b] = item
    return tuple(tuple(row) for row in copies)


def first_fault(house):
    """Find the fault of a table of the right form, straight from the equations."""
    _, unit, p, t = house
    equations = [
        ("plus turns", lambda a, b, c: p[a][b] == p[b][a]),
        ("plus joins", lambda a, b, c: p[p[a][b]][c] == p[a][p[b][c]]),
        ("zero adds", lambda a, b, c: p[0][a] == a),
        ("times turns", lambda a, b, c: t[a][b] == t[b][a]),
        ("times joins", lambda a, b, c: t[t[a][b]][c] == t[a][t[b][c]]),
        ("one keeps", lambda a, b, c: t[unit][a] == a),
        ("spreads", lambda a, b, c: t[a][p[b][c]] == p[t[a][b]][t[a][c]]),
        ("zero kills", lambda a, b, c: t[0][a] == 0),
    ]
    for name, equation in equations:
        for triple in itertools.product(range(len(p)), repeat=3):
            if not equation(*triple):
                return (name,) + triple
    return None


MAX = square(5, max)
MIN = square(5, min)
CAPPED = square(5, lambda a, b: min(4, a + b))


class FaultTest(unittest.TestCase):
    def assert_fault(self, house, fault):
        with self.subTest(house=house):
            self.assertEqual(fault_of(house), fault)
            self.assertIs(is_house(house), fault is None)

    def test_no_fault(self):
        for house in GOOD:
            self.assert_fault(house, None)

    def test_the_example_of_the_document(self):
        self.assert_fault(("table", 1, ((0, 1), (1, 1)), ((0, 0), (1, 1))), ("times turns", 0, 1, 0))

    def test_no_rows_and_seven_rows(self):
        self.assert_fault(("table", 0, (), ()), ("form",))
        self.assert_fault(("table", 0, (), ((0,),)), ("form",))
        self.assert_fault(("table", 6, square(7, max), square(7, min)), ("form",))
        self.assert_fault(("table", 5, square(6, max), square(6, min)), None)
        self.assert_fault(("table", 11, square(12, max), square(12, min)), ("form",))

    def test_rows_that_are_missing_or_too_many(self):
        self.assert_fault(("table", 4, MAX, MIN[:4]), ("form",))
        self.assert_fault(("table", 4, MAX, MIN + MIN[:1]), ("form",))
        self.assert_fault(("table", 4, MAX, ()), ("form",))
        self.assert_fault(("table", 3, MAX[:4], MIN), ("form",))

    def test_rows_too_short_or_too_long(self):
        for at in range(5):
            for row in ((), MAX[at][:4], MAX[at] + (0,)):
                self.assert_fault(("table", 4, MAX[:at] + (row,) + MAX[at + 1:], MIN), ("form",))
                self.assert_fault(("table", 4, MAX, MIN[:at] + (row,) + MIN[at + 1:]), ("form",))

    def test_items_out_of_the_range(self):
        for a, b in itertools.product(range(5), repeat=2):
            for item in (-1, -5, 5, BIG, -BIG):
                self.assert_fault(("table", 4, changed(MAX, a, b, item), MIN), ("form",))
                self.assert_fault(("table", 4, MAX, changed(MIN, a, b, item)), ("form",))

    def test_one_out_of_the_range(self):
        for unit in (-1, -5, 5, BIG, -BIG):
            self.assert_fault(("table", unit, MAX, MIN), ("form",))
        self.assert_fault(("table", 1, ((0,),), ((0,),)), ("form",))
        self.assert_fault(("table", 4, MAX, MIN), None)

    def test_plus_turns(self):
        self.assert_fault(("table", 4, changed(MAX, 0, 4, 3), MIN), ("plus turns", 0, 4, 0))
        self.assert_fault(("table", 4, changed(MAX, 4, 3, 2), MIN), ("plus turns", 3, 4, 0))
        self.assert_fault(("table", 4, changed(changed(MAX, 4, 3, 2), 2, 1, 0), MIN), ("plus turns", 1, 2, 0))

    def test_plus_joins(self):
        self.assert_fault(("table", 0, changed(MAX, 4, 4, 2), MAX), ("plus joins", 3, 4, 4))
        self.assert_fault(("table", 4, changed(MAX, 4, 4, 0), MIN), ("plus joins", 1, 4, 4))

    def test_zero_adds(self):
        self.assert_fault(("table", 4, square(5, lambda a, b: 0), MIN), ("zero adds", 1, 0, 0))
        self.assert_fault(("table", 0, square(5, min), MAX), ("zero adds", 1, 0, 0))
        self.assert_fault(("table", 1, square(2, lambda a, b: 1), ((0, 0), (0, 1))), ("zero adds", 0, 0, 0))
        late = ((0, 1, 2, 1), (1, 1, 2, 1), (2, 2, 2, 2), (1, 1, 2, 3))
        self.assert_fault(("table", 3, late, square(4, min)), ("zero adds", 3, 0, 0))

    def test_times_turns(self):
        self.assert_fault(("table", 4, MAX, changed(MIN, 0, 4, 1)), ("times turns", 0, 4, 0))
        self.assert_fault(("table", 4, MAX, changed(MIN, 4, 3, 2)), ("times turns", 3, 4, 0))

    def test_times_joins(self):
        self.assert_fault(("table", 3, MAX, changed(MAX, 4, 4, 2)), ("times joins", 3, 4, 4))

    def test_one_keeps(self):
        self.assert_fault(("table", 3, MAX, MIN), ("one keeps", 4, 0, 0))
        self.assert_fault(("table", 0, MAX, MIN), ("one keeps", 1, 0, 0))
        self.assert_fault(("table", 1, MAX, MAX), ("one keeps", 0, 0, 0))
        self.assert_fault(("table", 4, MAX, square(5, lambda a, b: 0)), ("one keeps", 1, 0, 0))

    def test_spreads(self):
        self.assert_fault(("table", 4, CAPPED, MIN), ("spreads", 1, 1, 1))
        self.assert_fault(("table", 0, MAX, changed(MAX, 4, 4, 3)), ("spreads", 4, 0, 4))

    def test_zero_kills(self):
        self.assert_fault(("table", 0, MAX, MAX), ("zero kills", 1, 0, 0))
        late = ((0, 0, 2), (0, 1, 2), (2, 2, 2))
        self.assert_fault(("table", 1, ((0, 1, 2), (1, 1, 2), (2, 2, 2)), late), ("zero kills", 2, 0, 0))

    def test_the_first_fault_counts(self):
        many = changed(MAX, 4, 3, 2)
        self.assert_fault(("table", 0, many, changed(MIN, 0, 1, 1)), ("plus turns", 3, 4, 0))
        self.assert_fault(("table", 9, many, changed(MIN, 0, 1, 1)), ("form",))
        self.assert_fault(("table", 0, many, changed(MIN, 0, 1, 9)), ("form",))

    def test_all_tables_of_two_worths(self):
        for items in itertools.product((0, 1), repeat=8):
            for unit in (0, 1):
                house = ("table", unit, (items[0:2], items[2:4]), (items[4:6], items[6:8]))
                self.assert_fault(house, first_fault(house))

    def test_tables_with_some_items_exchanged(self):
        chance = random.Random(7)
        for _ in range(2000):
            form, unit, p, t = chance.choice(GOOD)
            size = len(p)
            for _ in range(chance.randrange(3)):
                a, b, item = (chance.randrange(size) for _ in range(3))
                if chance.random() < 0.5:
                    p = changed(changed(p, a, b, item), b, a, item)
                else:
                    t = changed(changed(t, a, b, item), b, a, item)
            house = (form, chance.choice((unit, chance.randrange(size))), p, t)
            self.assert_fault(house, first_fault(house))


class TableWorthTest(unittest.TestCase):
    def test_the_worths_are_the_indexes(self):
        for house in GOOD:
            size = len(house[2])
            for worth in range(-1, size + 1):
                self.assertIs(is_worth(house, worth), 0 <= worth < size)

    def test_the_operations_are_the_tables(self):
        for house in GOOD:
            _, unit, p, t = house
            self.assertEqual((zero(house), one(house)), (0, unit))
            for a, b in itertools.product(range(len(p)), repeat=2):
                self.assertEqual(plus(house, a, b), p[a][b])
                self.assertEqual(times(house, a, b), t[a][b])


if __name__ == "__main__":
    unittest.main()
