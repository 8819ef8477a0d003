"""Formulas for the tests, and plain ways to find what is promised of them."""

import itertools

from anyworth.houses import is_worth, one, plus, times, zero

KINDS = ("all", "once", "sets", "prices", "yes")


def tag(number):
    return ((((number, 1),), 1),)


def formula_of(parts):
    """Return the formula of a dict from monomials to coefficients."""
    return tuple(sorted(parts.items()))


def each_once(*monomials):
    return tuple((monomial, 1) for monomial in sorted(monomials))


def some_monomial(chance, tags, greatest):
    chosen = sorted(chance.sample(tags, chance.randrange(min(len(tags), 4) + 1)))
    return tuple((number, chance.randrange(1, greatest + 1)) for number in chosen)


def some_formula(chance, tags=(1, 2, 3), most=5, greatest=3):
    """Return a formula with at most so many monomials and so great exponents."""
    parts = {}
    for _ in range(chance.randrange(most + 1)):
        parts[some_monomial(chance, list(tags), greatest)] = chance.randrange(1, 6)
    return formula_of(parts)


def plainly_read(house, formula, worths):
    """Return what a formula is read as, one sum and one product after the other."""
    total = zero(house)
    for monomial, coefficient in formula:
        for _ in range(coefficient):
            made = one(house)
            for number, exponent in monomial:
                for _ in range(exponent):
                    made = times(house, made, worths.get(number, zero(house)))
            total = plus(house, total, made)
    return total


def divides(monomial, other):
    exponents = dict(other)
    return all(exponents.get(number, 0) >= exponent for number, exponent in monomial)


def plainly_reduced(kind, formula):
    """Return the reduced form, by the words of the document."""
    if kind == "all":
        return formula
    monomials = {monomial for monomial, _ in formula}
    if kind in ("sets", "yes"):
        monomials = {tuple((number, 1) for number, _ in monomial) for monomial in monomials}
    if kind in ("prices", "yes"):
        monomials = {
            monomial
            for monomial in monomials
            if not any(other != monomial and divides(other, monomial) for other in monomials)
        }
    while kind == "sets":
        together = {tuple(sorted(set(a + b))) for a, b in itertools.product(monomials, repeat=2)}
        if together <= monomials:
            break
        monomials |= together
    return each_once(*monomials)


def house_of_parting(kind, formula, other):
    """Return the house that a parting must have."""
    many = len({number for monomial, _ in formula + other for number, _ in monomial})
    houses = {"all": ("counts",), "once": ("sums",), "sets": ("families",), "yes": ("yes",)}
    return houses.get(kind, ("prices", max(1, many)))


def are_worths(house, worths):
    return all(is_worth(house, worth) for worth in worths)
