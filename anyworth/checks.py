"""Tests of single values that the checks of several kinds of worths share."""


def is_from(value, least):
    """Tell whether the value is an integer that is not below the least one."""
    return isinstance(value, int) and value >= least


def is_between(value, least, greatest):
    """Tell whether the value is an integer from the least to the greatest one."""
    return isinstance(value, int) and least <= value <= greatest


def is_tuple_of(value, size):
    """Tell whether the value is a tuple with this many items."""
    return isinstance(value, tuple) and len(value) == size


def ascends(items):
    """Tell whether the items are in ascending order without duplicates."""
    return list(items) == sorted(set(items))
