"""The reduced forms of formulas for each kind of houses, and what parts two formulas."""

from anyworth.formulas import plus_formulas, tags_of
from anyworth.houses import power
from anyworth.lots import plus_families


def reduced(kind, formula):
    """Return the reduced form of a formula for a kind of houses."""
    match kind:
        case "all":
            return formula
        case "once":
            return each_once(monomials_of(formula))
        case "sets":
            return each_once(joined(bare_monomials(formula), tags_of(formula)))
        case "prices":
            return each_once(undivided(monomials_of(formula), tags_of(formula)))
        case "yes":
            return each_once(undivided(bare_monomials(formula), tags_of(formula)))


def each_once(monomials):
    """Return the formula that has each of the monomials once."""
    return tuple([(monomial, 1) for monomial in sorted(set(monomials))])


def monomials_of(formula):
    """Return the list of the monomials of a formula."""
    return [monomial for monomial, _ in formula]


def bare_monomials(formula):
    """Return the list of the monomials of a formula, with all exponents 1."""
    return [bare(monomial) for monomial, _ in formula]


def bare(monomial):
    """Return the monomial with all exponents 1."""
    return tuple([(tag, 1) for tag, _ in monomial])


def joined(monomials, tags):
    """Return the bare monomials whose tags are together those of one or more of these."""
    bits = bits_of(tags)
    masks = plus_families(tuple([mask_of(monomial, bits) for monomial in monomials]), ())
    return [tuple([(tag, 1) for tag, bit in bits.items() if (mask & bit) == bit]) for mask in masks]


def bits_of(tags):
    """Return a dict that gives each of the ascending tags a bit of its own."""
    return {tag: 1 << place for place, tag in enumerate(tags)}


def mask_of(monomial, bits):
    """Return the bits of the tags of a monomial, all in one integer."""
    return sum([bits[tag] for tag, _ in monomial])


def undivided(monomials, tags):
    """Return the monomials that no other one of them divides."""
    bits = bits_of(tags)
    kept = []
    # What divides a monomial has a smaller degree, and where it is not kept, a kept
    # one divides both: so it is enough to ask the kept ones. Most of them have a tag
    # that the monomial has not, which their bits tell at once.
    for monomial in sorted(sorted(set(monomials)), key=degree):
        mask = mask_of(monomial, bits)
        near = [less for own, less in kept if (own & mask) == own]
        if not has_divisor(monomial, near):
            kept.append((mask, monomial))
    return [monomial for _, monomial in kept]


def degree(monomial):
    """Return the sum of the exponents of a monomial."""
    return sum([exponent for _, exponent in monomial])


def has_divisor(monomial, others):
    """Tell whether one of the other monomials divides the monomial."""
    exponents = dict(monomial)
    for other in others:
        if all([exponents.get(tag, 0) >= exponent for tag, exponent in other]):
            return True
    return False


def parting(kind, formula, other):
    """Return a house of the kind and worths that part two formulas, or None."""
    if reduced(kind, formula) == reduced(kind, other):
        return None
    both = plus_formulas(formula, other)
    tags = tags_of(both)
    match kind:
        case "all":
            return (("counts",), parting_counts(formula, other, tags))
        case "once":
            return (("sums",), parting_sums(both, tags))
        case "sets":
            return (("families",), tuple([(tag, (bit,)) for tag, bit in bits_of(tags).items()]))
        case "prices":
            width = max(1, len(tags))
            return (("prices", width), parting_prices(tags, width))
        case "yes":
            return (("yes",), parting_yes(formula, other, tags))


def parting_counts(formula, other, tags):
    """Return pairs of the tags and numbers for which the two formulas differ."""
    rest = difference(formula, other)
    pairs = []
    for tag in tags:
        number = 1
        # A tag with a greatest exponent of k leaves nothing for k numbers at most.
        while not with_number(rest, tag, number):
            number += 1
        rest = with_number(rest, tag, number)
        pairs.append((tag, number))
    return tuple(pairs)


def difference(formula, other):
    """Return the coefficients, also below 0, of the formula less the other one."""
    found = {monomial: coefficient for monomial, coefficient in formula}
    for monomial, coefficient in other:
        found[monomial] = found.get(monomial, 0) - coefficient
    return without_zeros(found)


def without_zeros(coefficients):
    """Return a dict of the monomials whose coefficients are not 0."""
    return {monomial: coefficient for monomial, coefficient in coefficients.items() if coefficient != 0}


def with_number(coefficients, tag, number):
    """Return the coefficients that are left when the tag becomes the number."""
    found = {}
    for monomial, coefficient in coefficients.items():
        rest = tuple([factor for factor in monomial if factor[0] != tag])
        exponent = dict(monomial).get(tag, 0)
        found[rest] = found.get(rest, 0) + coefficient * power(("counts",), number, exponent)
    return without_zeros(found)


def parting_sums(formula, tags):
    """Return pairs of the tags and sums that give each monomial a sum of its own."""
    base = 1 + max([factor[1] for monomial, _ in formula for factor in monomial], default=0)
    pairs = []
    step = 1
    # The exponents of a monomial are the digits of its sum in this base.
    for tag in tags:
        pairs.append((tag, (step,)))
        step = step * base
    return tuple(pairs)


def parting_prices(tags, width):
    """Return pairs of the tags and prices that give each monomial its exponents as its row."""
    pairs = []
    for place, tag in enumerate(tags):
        row = tuple([1 if at == place else 0 for at in range(width)])
        pairs.append((tag, (row,)))
    return tuple(pairs)


def parting_yes(formula, other, tags):
    """Return pairs of the tags and 0 or 1 for which one formula alone becomes 1."""
    apart = sorted(set(reduced("yes", formula)) ^ set(reduced("yes", other)))
    # No other monomial of either reduced form divides the shortest of these: one
    # that did would be shorter and stand in one of the two forms alone, too.
    shortest = dict(min([monomial for monomial, _ in apart], key=len))
    return tuple([(tag, 1 if tag in shortest else 0) for tag in tags])
