"""Formulas: what is made of them, and how they are read in a house."""

from anyworth.houses import multiple, power, product_of, sum_of, zero
from anyworth.polynomials import is_polynomial, plus_polynomials, times_polynomials


def is_formula(formula):
    """Tell whether this is a formula."""
    return is_polynomial(formula)


def tag_formula(tag):
    """Return the formula of a tag."""
    return ((((tag, 1),), 1),)


def plus_formulas(formula, other):
    """Return the sum of two formulas."""
    return plus_polynomials(formula, other)


def times_formulas(formula, other):
    """Return the product of two formulas."""
    return times_polynomials(formula, other)


def tags_of(formula):
    """Return the tags that stand in a formula, ascending."""
    return tuple(sorted({factor[0] for monomial, _ in formula for factor in monomial}))


def read_formula(house, formula, worths):
    """Return the worth that a formula is read as; tags without a worth are read as zero."""
    nothing = zero(house)
    # The same power may stand in many monomials, so each is found once.
    factors = sorted({factor for monomial, _ in formula for factor in monomial})
    powers = {factor: power(house, worths.get(factor[0], nothing), factor[1]) for factor in factors}
    return sum_of(house, [read_part(house, part, powers) for part in formula])


def read_part(house, part, powers):
    """Return the worth of a monomial with its coefficient, by the powers of its tags."""
    monomial, coefficient = part
    return multiple(house, product_of(house, [powers[factor] for factor in monomial]), coefficient)


def without_tags(formula, tags):
    """Return the formula without the monomials that have one of these tags."""
    left_out = {tag: True for tag in tags}
    return tuple([part for part in formula if not has_one_of(part[0], left_out)])


def has_one_of(monomial, tags):
    """Tell whether one of the tags stands in the monomial."""
    return any([factor[0] in tags for factor in monomial])


class Formula:
    """A formula that is added, multiplied and read by signs."""

    def __init__(self, formula):
        self._formula = formula

    @property
    def monomials(self):
        """The formula, a tuple of monomials with their coefficients."""
        return self._formula

    def __add__(self, other):
        return Formula(plus_formulas(self._formula, other._formula))

    def __mul__(self, other):
        return Formula(times_formulas(self._formula, other._formula))

    def __contains__(self, tag):
        return tag in tags_of(self._formula)

    def __call__(self, house, worths):
        return read_formula(house, self._formula, worths)

    @staticmethod
    def of_tag(tag):
        """Return the formula of a tag."""
        return Formula(tag_formula(tag))
