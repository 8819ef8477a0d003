"""The worths of the houses of the form "prices": lots of price rows."""

from anyworth.checks import is_from, is_tuple_of


def is_prices(worth, width):
    """Tell whether this is a worth whose price rows have this width."""
    if not isinstance(worth, tuple):
        return False
    if not all([is_price_row(row, width) for row in worth]):
        return False
    return cheapest_rows(worth) == worth


def is_price_row(row, width):
    """Tell whether this is a price row of this width."""
    return is_tuple_of(row, width) and all([is_from(price, 0) for price in row])


def plus_prices(worth, other):
    """Return the rows of both that no row of both undercuts."""
    return cheapest_rows(worth + other)


def times_prices(worth, other):
    """Return the sums of a row of each that no other sum undercuts."""
    return cheapest_rows([added_rows(row, more) for row in worth for more in other])


def added_rows(row, more):
    """Return the sum of two rows, number by number."""
    return tuple([price + extra for price, extra in zip(row, more)])


def cheapest_rows(rows):
    """Return, as a worth, the rows that no other one of them undercuts."""
    totals = {}
    for row in sorted(set(rows)):
        totals.setdefault(sum(row), []).append(row)
    kept = []
    # What undercuts a row has a smaller total, and where it is not kept, a kept one
    # undercuts both: so it is enough to ask the kept ones with smaller totals.
    for total in sorted(totals):
        cheap = [row for row in totals[total] if not is_undercut(row, kept)]
        kept.extend(cheap)
    return tuple(sorted(kept))


def is_undercut(row, others):
    """Tell whether one of the other rows undercuts the row."""
    for other in others:
        if undercuts(other, row):
            return True
    return False


def undercuts(row, other):
    """Tell whether the row undercuts the other one."""
    for price, limit in zip(row, other):
        if price > limit:
            return False
    return row != other
