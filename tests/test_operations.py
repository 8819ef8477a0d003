"""Zero, one, plus and times of each form, and sums and products of many: [5], [7]."""

import itertools
import math
import random
import unittest

from anyworth.houses import multiple, one, plus, power, product_of, sum_of, times, zero
from tests.samples import BIG, WORTHS, X, Y

ZEROS_AND_ONES = {
    ("counts",): (0, 1),
    ("capped", 1): (0, 1),
    ("capped", 5): (0, 1),
    ("capped", BIG): (0, 1),
    ("modulo", 1): (0, 0),
    ("modulo", 2): (0, 1),
    ("modulo", BIG): (0, 1),
    ("yes",): (0, 1),
    ("chain", 1): (0, 1),
    ("chain", 4): (0, 4),
    ("chain", BIG): (0, BIG),
    ("divisors", 1): (1, 1),
    ("divisors", 12): (1, 12),
    ("divisors", BIG): (1, BIG),
    ("least",): (None, 0),
    ("prices", 1): ((), ((0,),)),
    ("prices", 3): ((), ((0, 0, 0),)),
    ("prices", 40): ((), ((0,) * 40,)),
    ("sums",): ((), (0,)),
    ("families",): ((), (0,)),
    ("formulas",): ((), (((), 1),)),
    ("table", 0, ((0,),), ((0,),)): (0, 0),
    ("table", 1, ((0, 1), (1, 1)), ((0, 0), (0, 1))): (0, 1),
    ("table", 2, ((0, 1, 2), (1, 1, 2), (2, 2, 2)), ((0, 0, 0), (0, 1, 1), (0, 1, 2))): (0, 2),
    ("pair", ("least",), ("chain", 3)): ((None, 0), (0, 3)),
    ("pair", ("divisors", 6), ("pair", ("sums",), ("modulo", 1))): ((1, ((), 0)), (6, ((0,), 0))),
}

# Rows of a house, two worths, their sum and their product.
RESULTS = [
    (("counts",), 2, 3, 5, 6),
    (("counts",), BIG, BIG + 1, 2 * BIG + 1, BIG * (BIG + 1)),
    (("capped", 1), 1, 1, 1, 1),
    (("capped", 5), 2, 2, 4, 4),
    (("capped", 5), 2, 3, 5, 5),
    (("capped", 5), 4, 4, 5, 5),
    (("capped", BIG), BIG - 1, 1, BIG, BIG - 1),
    (("capped", BIG), BIG - 1, 2, BIG, BIG),
    (("modulo", 1), 0, 0, 0, 0),
    (("modulo", 6), 2, 3, 5, 0),
    (("modulo", 6), 4, 5, 3, 2),
    (("modulo", BIG), BIG - 1, BIG - 1, BIG - 2, 1),
    (("yes",), 0, 1, 1, 0),
    (("yes",), 1, 1, 1, 1),
    (("yes",), 0, 0, 0, 0),
    (("chain", 4), 1, 3, 3, 1),
    (("chain", 4), 4, 3, 4, 3),
    (("chain", BIG), BIG, 7, BIG, 7),
    (("divisors", 1), 1, 1, 1, 1),
    (("divisors", 12), 4, 6, 12, 2),
    (("divisors", 12), 3, 4, 12, 1),
    (("divisors", 12), 2, 6, 6, 2),
    (("divisors", BIG), 2 ** 40, 5 ** 40, BIG, 1),
    (("least",), 3, None, 3, None),
    (("least",), None, None, None, None),
    (("least",), 3, 4, 3, 7),
    (("least",), 0, 4, 0, 4),
    (("least",), BIG, BIG + 1, BIG, 2 * BIG + 1),
    (("prices", 1), ((3,),), ((5,),), ((3,),), ((8,),)),
    (("prices", 2), ((1, 4),), ((2, 2),), ((1, 4), (2, 2)), ((3, 6),)),
    (("prices", 2), ((1, 1),), ((0, 5), (5, 0)), ((0, 5), (1, 1), (5, 0)), ((1, 6), (6, 1))),
    (("prices", 2), ((0, 2), (2, 0)), ((0, 2), (1, 1)), ((0, 2), (1, 1), (2, 0)), ((0, 4), (1, 3), (2, 2), (3, 1))),
    (("prices", 2), ((0, 3), (1, 0)), ((0, 1), (2, 0)), ((0, 1), (1, 0)), ((0, 4), (1, 1), (3, 0))),
    (("prices", 3), ((0, 0, 1),), ((0, 0, 0),), ((0, 0, 0),), ((0, 0, 1),)),
    (("sums",), (0, 2), (1, 2), (0, 1, 2), (1, 2, 3, 4)),
    (("sums",), (1, BIG), (BIG,), (1, BIG), (BIG + 1, 2 * BIG)),
    (("families",), (1, 2, 3), (4,), (1, 2, 3, 4, 5, 6, 7), (5, 6, 7)),
    (("families",), (1,), (2,), (1, 2, 3), (3,)),
    (("families",), (0, 1), (2,), (0, 1, 2, 3), (2, 3)),
    (("families",), (2 ** 90,), (1, 2 ** 90), (1, 2 ** 90, 2 ** 90 + 1), (2 ** 90, 2 ** 90 + 1)),
    (("formulas",), X, Y, ((((1, 1),), 1), (((2, 1),), 1)), ((((1, 1), (2, 1)), 1),)),
    (("table", 1, ((0, 1, 2), (1, 2, 0), (2, 0, 1)), ((0, 0, 0), (0, 1, 2), (0, 2, 1))), 2, 2, 1, 1),
    (("pair", ("counts",), ("least",)), (2, 3), (5, None), (7, 3), (10, None)),
    (("pair", ("sums",), ("pair", ("yes",), ("chain", 9))), ((1,), (0, 3)), ((2,), (1, 5)),
     ((1, 2), (1, 5)), ((3,), (0, 3))),
]


def undercuts(row, other):
    return row != other and all(a <= b for a, b in zip(row, other))


def not_undercut(rows):
    """Return the rows that no row of all undercuts, straight from the document."""
    return tuple(sorted(row for row in set(rows) if not any(undercuts(other, row) for other in rows)))


def closure(members):
    """Return the smallest closed lot with the members."""
    members = set(members)
    while True:
        more = {a | b for a in members for b in members} | members
        if more == members:
            return tuple(sorted(members))
        members = more


class ZeroAndOneTest(unittest.TestCase):
    def test_each_form(self):
        for house, (nothing, unit) in ZEROS_AND_ONES.items():
            with self.subTest(house=house):
                self.assertEqual(zero(house), nothing)
                self.assertEqual(one(house), unit)


class PlusAndTimesTest(unittest.TestCase):
    def test_each_form(self):
        for house, worth, other, total, made in RESULTS:
            with self.subTest(house=house, worth=worth, other=other):
                self.assertEqual(plus(house, worth, other), total)
                self.assertEqual(plus(house, other, worth), total)
                self.assertEqual(times(house, worth, other), made)
                self.assertEqual(times(house, other, worth), made)

    def test_with_zero_and_one(self):
        for house, worths in WORTHS.items():
            for worth in worths:
                with self.subTest(house=house, worth=worth):
                    self.assertEqual(plus(house, worth, zero(house)), worth)
                    self.assertEqual(times(house, worth, one(house)), worth)
                    self.assertEqual(times(house, worth, zero(house)), zero(house))

    def test_a_worth_with_itself(self):
        self.assertEqual(plus(("counts",), 7, 7), 14)
        self.assertEqual(times(("counts",), 7, 7), 49)
        self.assertEqual(plus(("modulo", 2), 1, 1), 0)
        self.assertEqual(plus(("least",), 4, 4), 4)
        self.assertEqual(times(("least",), 4, 4), 8)
        self.assertEqual(plus(("prices", 2), ((0, 1), (1, 0)), ((0, 1), (1, 0))), ((0, 1), (1, 0)))
        self.assertEqual(times(("prices", 2), ((0, 1), (1, 0)), ((0, 1), (1, 0))), ((0, 2), (1, 1), (2, 0)))
        self.assertEqual(plus(("sums",), (1, 3), (1, 3)), (1, 3))
        self.assertEqual(times(("sums",), (1, 3), (1, 3)), (2, 4, 6))
        self.assertEqual(plus(("families",), (1, 2, 3), (1, 2, 3)), (1, 2, 3))
        self.assertEqual(times(("families",), (1, 2, 3), (1, 2, 3)), (1, 2, 3))
        for house in (("yes",), ("chain", 4), ("divisors", 12), ("capped", 1)):
            for worth in WORTHS[house]:
                self.assertEqual(plus(house, worth, worth), worth)
                self.assertEqual(times(house, worth, worth), worth)

    def test_small_numbers_all(self):
        for number in range(1, 7):
            for a, b in itertools.product(range(number + 1), repeat=2):
                self.assertEqual(plus(("capped", number), a, b), min(number, a + b))
                self.assertEqual(times(("capped", number), a, b), min(number, a * b))
                self.assertEqual(plus(("chain", number), a, b), max(a, b))
                self.assertEqual(times(("chain", number), a, b), min(a, b))
            for a, b in itertools.product(range(number), repeat=2):
                self.assertEqual(plus(("modulo", number), a, b), (a + b) % number)
                self.assertEqual(times(("modulo", number), a, b), a * b % number)
        for number in (1, 7, 12, 36):
            divisors = [worth for worth in range(1, number + 1) if number % worth == 0]
            for a, b in itertools.product(divisors, repeat=2):
                self.assertEqual(plus(("divisors", number), a, b), a * b // math.gcd(a, b))
                self.assertEqual(times(("divisors", number), a, b), math.gcd(a, b))

    def test_prices_by_trial(self):
        chance = random.Random(1)
        for _ in range(300):
            width = chance.choice((1, 2, 3, 5))
            house = ("prices", width)
            worth, other = (
                not_undercut([tuple(chance.randrange(5) for _ in range(width)) for _ in range(chance.randrange(6))])
                for _ in range(2)
            )
            self.assertEqual(plus(house, worth, other), not_undercut(worth + other))
            sums = [tuple(a + b for a, b in zip(row, more)) for row in worth for more in other]
            self.assertEqual(times(house, worth, other), not_undercut(sums))

    def test_a_row_that_the_row_beside_it_undercuts(self):
        # The example of the document passes such rows, too.
        self.assertEqual(plus(("prices", 2), ((9, 0),), ((2, 2), (3, 5))), ((2, 2), (9, 0)))
        self.assertEqual(plus(("prices", 2), ((2, 2), (3, 5)), ((9, 0),)), ((2, 2), (9, 0)))

    def test_families_by_trial(self):
        chance = random.Random(2)
        for _ in range(300):
            worth, other = (closure(chance.randrange(32) for _ in range(chance.randrange(5))) for _ in range(2))
            self.assertEqual(plus(("families",), worth, other), closure(worth + other))
            self.assertEqual(times(("families",), worth, other), tuple(sorted({a | b for a in worth for b in other})))

    def test_sums_by_trial(self):
        chance = random.Random(3)
        for _ in range(300):
            worth, other = (
                tuple(sorted({chance.randrange(12) for _ in range(chance.randrange(6))})) for _ in range(2)
            )
            self.assertEqual(plus(("sums",), worth, other), tuple(sorted(set(worth) | set(other))))
            self.assertEqual(times(("sums",), worth, other), tuple(sorted({a + b for a in worth for b in other})))


class ManyTest(unittest.TestCase):
    def test_the_empty_list(self):
        for house in WORTHS:
            self.assertEqual(sum_of(house, []), zero(house))
            self.assertEqual(product_of(house, []), one(house))

    def test_one_worth(self):
        for house, worths in WORTHS.items():
            for worth in worths:
                self.assertEqual(sum_of(house, [worth]), worth)
                self.assertEqual(product_of(house, [worth]), worth)

    def test_several_worths(self):
        for house, worths in WORTHS.items():
            for length in range(2, len(worths) + 1):
                total, made = zero(house), one(house)
                for worth in worths[:length]:
                    total, made = plus(house, total, worth), times(house, made, worth)
                self.assertEqual(sum_of(house, worths[:length]), total)
                self.assertEqual(product_of(house, worths[:length]), made)

    def test_a_worth_may_stand_several_times(self):
        self.assertEqual(sum_of(("counts",), [2, 2, 2, 1]), 7)
        self.assertEqual(product_of(("counts",), [2, 2, 2, 1]), 8)
        self.assertEqual(sum_of(("modulo", 2), [1] * 7), 1)
        self.assertEqual(product_of(("least",), [3, 3, 0]), 6)
        self.assertEqual(sum_of(("counts",), list(range(100))), 4950)
        self.assertEqual(product_of(("counts",), [10] * 40), BIG)

    def test_the_list_stays_as_it_was(self):
        for house, worths in WORTHS.items():
            passed = list(worths) * 2
            sum_of(house, passed)
            product_of(house, passed)
            self.assertEqual(passed, list(worths) * 2)


class RepeatedTest(unittest.TestCase):
    def test_none_and_one(self):
        for house, worths in WORTHS.items():
            for worth in worths:
                self.assertEqual(multiple(house, worth, 0), zero(house))
                self.assertEqual(multiple(house, worth, 1), worth)
                self.assertEqual(power(house, worth, 0), one(house))
                self.assertEqual(power(house, worth, 1), worth)

    def test_each_number_of_times_up_to_five(self):
        for house, worths in WORTHS.items():
            for worth in worths:
                total, made = zero(house), one(house)
                for n in range(6):
                    with self.subTest(house=house, worth=worth, n=n):
                        self.assertEqual(multiple(house, worth, n), total)
                        self.assertEqual(power(house, worth, n), made)
                    total, made = plus(house, total, worth), times(house, made, worth)

    def test_each_number_of_times_up_to_sixty(self):
        for n in range(61):
            self.assertEqual(multiple(("counts",), 3, n), 3 * n)
            self.assertEqual(power(("counts",), 3, n), 3 ** n)
            self.assertEqual(multiple(("counts",), BIG, n), BIG * n)
            self.assertEqual(power(("counts",), BIG, n), BIG ** n)
            self.assertEqual(multiple(("capped", 50), 3, n), min(50, 3 * n))
            self.assertEqual(power(("capped", 50), 3, n), min(50, 3 ** n))
            self.assertEqual(multiple(("modulo", 7), 3, n), 3 * n % 7)
            self.assertEqual(power(("modulo", 7), 3, n), 3 ** n % 7)
            self.assertEqual(multiple(("least",), 3, n), 3 if n else None)
            self.assertEqual(power(("least",), 3, n), 3 * n)
            self.assertEqual(power(("prices", 2), ((0, 1), (1, 0)), n), tuple((k, n - k) for k in range(n + 1)))
            self.assertEqual(power(("sums",), (0, 1), n), tuple(range(n + 1)))
            self.assertEqual(multiple(("formulas",), X, n), ((((1, 1),), n),) if n else ())
            self.assertEqual(power(("formulas",), X, n), ((((1, n),), 1),) if n else (((), 1),))
            self.assertEqual(power(("pair", ("counts",), ("least",)), (2, 5), n), (2 ** n, 5 * n))
            self.assertEqual(multiple(("pair", ("counts",), ("modulo", 4)), (2, 3), n), (2 * n, 3 * n % 4))


if __name__ == "__main__":
    unittest.main()
