"""Houses: which ones are valid, their kinds, their worths and their operations."""

from math import gcd, lcm

from anyworth.checks import is_between, is_from, is_tuple_of
from anyworth.lots import is_closed, is_lot, plus_families, plus_sums, times_families, times_sums
from anyworth.polynomials import ONE, ZERO, is_polynomial, plus_polynomials, times_polynomials
from anyworth.prices import is_prices, plus_prices, times_prices
from anyworth.tabled import fault_of, kinds_of_table

DEEPEST = 6
WIDEST = 40

KINDS = ("all", "once", "sets", "prices", "yes")


def is_house(house):
    """Tell whether a house is valid."""
    return is_house_within(house, DEEPEST)


def is_house_within(house, depth):
    """Tell whether a house is valid with at most this depth, which is from 1."""
    match house[0]:
        case "counts" | "yes" | "least" | "sums" | "families" | "formulas":
            return True
        case "capped" | "modulo" | "chain" | "divisors":
            return house[1] >= 1
        case "prices":
            return 1 <= house[1] <= WIDEST
        case "table":
            return fault_of(house) is None
        case "pair":
            if depth == 1:
                return False
            return is_house_within(house[1], depth - 1) and is_house_within(house[2], depth - 1)
    return False


def kinds_of(house):
    """Return the kinds of a house, in their order."""
    match house[0]:
        case "counts" | "formulas":
            return ("all",)
        case "yes" | "chain" | "divisors":
            return KINDS
        case "capped" | "modulo":
            return KINDS if house[1] == 1 else ("all",)
        case "least" | "prices":
            return ("all", "once", "prices")
        case "sums":
            return ("all", "once")
        case "families":
            return ("all", "once", "sets")
        case "table":
            return kinds_of_table(house)
        case "pair":
            others = kinds_of(house[2])
            return tuple([kind for kind in kinds_of(house[1]) if kind in others])


def zero(house):
    """Return the worth zero of a house."""
    match house[0]:
        case "divisors":
            return 1
        case "least":
            return None
        case "prices" | "sums" | "families":
            return ()
        case "formulas":
            return ZERO
        case "pair":
            return (zero(house[1]), zero(house[2]))
    return 0


def one(house):
    """Return the worth one of a house."""
    match house[0]:
        case "modulo":
            return 1 % house[1]
        case "chain" | "divisors" | "table":
            return house[1]
        case "least":
            return 0
        case "prices":
            return ((0,) * house[1],)
        case "sums" | "families":
            return (0,)
        case "formulas":
            return ONE
        case "pair":
            return (one(house[1]), one(house[2]))
    return 1


def is_worth(house, worth):
    """Tell whether this is a worth of the house."""
    match house[0]:
        case "counts":
            return is_from(worth, 0)
        case "capped" | "chain":
            return is_between(worth, 0, house[1])
        case "modulo":
            return is_between(worth, 0, house[1] - 1)
        case "yes":
            return is_between(worth, 0, 1)
        case "divisors":
            return is_from(worth, 1) and house[1] % worth == 0
        case "least":
            return worth is None or is_from(worth, 0)
        case "prices":
            return is_prices(worth, house[1])
        case "sums":
            return is_lot(worth)
        case "families":
            return is_lot(worth) and is_closed(worth)
        case "formulas":
            return is_polynomial(worth)
        case "table":
            return is_between(worth, 0, len(house[2]) - 1)
        case "pair":
            return is_tuple_of(worth, 2) and is_worth(house[1], worth[0]) and is_worth(house[2], worth[1])


def plus(house, one_worth, other):
    """Return the sum of two worths of a house."""
    match house[0]:
        case "counts":
            return one_worth + other
        case "capped":
            return min(house[1], one_worth + other)
        case "modulo":
            return (one_worth + other) % house[1]
        case "yes" | "chain":
            return max(one_worth, other)
        case "divisors":
            return lcm(one_worth, other)
        case "least":
            return plus_least(one_worth, other)
        case "prices":
            return plus_prices(one_worth, other)
        case "sums":
            return plus_sums(one_worth, other)
        case "families":
            return plus_families(one_worth, other)
        case "formulas":
            return plus_polynomials(one_worth, other)
        case "table":
            return house[2][one_worth][other]
        case "pair":
            return (plus(house[1], one_worth[0], other[0]), plus(house[2], one_worth[1], other[1]))


def times(house, one_worth, other):
    """Return the product of two worths of a house."""
    match house[0]:
        case "counts":
            return one_worth * other
        case "capped":
            return min(house[1], one_worth * other)
        case "modulo":
            return (one_worth * other) % house[1]
        case "yes" | "chain":
            return min(one_worth, other)
        case "divisors":
            return gcd(one_worth, other)
        case "least":
            return times_least(one_worth, other)
        case "prices":
            return times_prices(one_worth, other)
        case "sums":
            return times_sums(one_worth, other)
        case "families":
            return times_families(one_worth, other)
        case "formulas":
            return times_polynomials(one_worth, other)
        case "table":
            return house[3][one_worth][other]
        case "pair":
            return (times(house[1], one_worth[0], other[0]), times(house[2], one_worth[1], other[1]))


def plus_least(one_worth, other):
    """Return the smaller one, where None is greater than every integer."""
    if one_worth is None:
        return other
    if other is None:
        return one_worth
    return min(one_worth, other)


def times_least(one_worth, other):
    """Return the usual sum, or None if one of the two is None."""
    if one_worth is None or other is None:
        return None
    return one_worth + other


def sum_of(house, worths):
    """Return the sum of a list of worths."""
    if not worths:
        return zero(house)
    # Each sum of two waits behind the others, so that worths of like lengths meet:
    # a single long total would be gone through again for each worth.
    waiting = list(worths)
    at = 0
    while at + 1 < len(waiting):
        waiting.append(plus(house, waiting[at], waiting[at + 1]))
        at += 2
    return waiting[at]


def product_of(house, worths):
    """Return the product of a list of worths."""
    total = one(house)
    for worth in worths:
        total = times(house, total, worth)
    return total


def multiple(house, worth, n):
    """Return the sum of n times the worth."""
    if n == 0:
        return zero(house)
    # A worth that is its own double stays the same, and needs no more sums.
    if n > 1 and plus(house, worth, worth) == worth:
        return worth
    total = worth
    # The binary digits of n behind the first one: doubling takes few steps.
    for place in range(n.bit_length() - 2, -1, -1):
        total = plus(house, total, total)
        if ((n >> place) & 1) == 1:
            total = plus(house, total, worth)
    return total


def power(house, worth, n):
    """Return the product of n times the worth."""
    return product_of(house, [worth] * n)
