"""The worths of the houses "sums" and "families": lots of integers."""

from anyworth.checks import ascends, is_from


def is_lot(worth):
    """Tell whether this is a tuple of ascending integers from 0."""
    return isinstance(worth, tuple) and all([is_from(member, 0) for member in worth]) and ascends(worth)


def is_closed(lot):
    """Tell whether the lot has the bitwise or of any two of its integers."""
    members = set(lot)
    for member in lot:
        for more in lot:
            if (member | more) not in members:
                return False
    return True


def plus_sums(lot, other):
    """Return the union of two lots."""
    return tuple(sorted(set(lot + other)))


def times_sums(lot, other):
    """Return the lot of all sums of one integer of each lot."""
    return tuple(sorted({member + more for member in lot for more in other}))


def plus_families(lot, other):
    """Return the smallest closed lot that has the integers of both lots."""
    closed = {}
    # Each new integer brings its ors with all earlier ones, so the lot stays closed.
    # In ascending order, few integers are new: an or follows what it is made of.
    for member in plus_sums(lot, other):
        if member not in closed:
            ors = [member | found for found in closed]
            for found in ors:
                closed[found] = True
            closed[member] = True
    return tuple(sorted(closed))


def times_families(lot, other):
    """Return the lot of all bitwise ors of one integer of each lot."""
    return tuple(sorted({member | more for member in lot for more in other}))
