"""Formulas as polynomials over tags: their form, their sums and their products."""

from anyworth.checks import ascends, is_from, is_tuple_of

ZERO = ()
ONE = (((), 1),)


def is_polynomial(worth):
    """Tell whether this is a formula."""
    if not isinstance(worth, tuple):
        return False
    if not all([is_part(part) for part in worth]):
        return False
    return ascends([part[0] for part in worth])


def is_part(part):
    """Tell whether this is a pair of a monomial and a coefficient."""
    return is_tuple_of(part, 2) and is_monomial(part[0]) and is_from(part[1], 1)


def is_monomial(monomial):
    """Tell whether this is a tuple of tags, ascending, with their exponents."""
    if not isinstance(monomial, tuple):
        return False
    if not all([is_factor(factor) for factor in monomial]):
        return False
    return ascends([factor[0] for factor in monomial])


def is_factor(factor):
    """Tell whether this is a pair of a tag and an exponent."""
    return is_tuple_of(factor, 2) and is_from(factor[0], 1) and is_from(factor[1], 1)


def plus_polynomials(formula, other):
    """Return the sum of two formulas."""
    found = {}
    for monomial, coefficient in formula + other:
        found[monomial] = found.get(monomial, 0) + coefficient
    return tuple(sorted(found.items()))


def times_polynomials(formula, other):
    """Return the product of two formulas."""
    found = {}
    for monomial, coefficient in formula:
        for more, factor in other:
            both = times_monomials(monomial, more)
            found[both] = found.get(both, 0) + coefficient * factor
    return tuple(sorted(found.items()))


def times_monomials(monomial, other):
    """Return the product of two monomials."""
    exponents = {}
    for tag, exponent in monomial + other:
        exponents[tag] = exponents.get(tag, 0) + exponent
    return tuple(sorted(exponents.items()))
