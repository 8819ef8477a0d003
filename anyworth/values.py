"""Words, values and rows, and their order."""

LONGEST = 8


def is_word(text):
    """Tell whether the string is a word."""
    return text != "" and all(["a" <= letter <= "z" for letter in text])


def is_value(value):
    """Tell whether the integer or string is a value."""
    return isinstance(value, int) or is_word(value)


def is_row(row):
    """Tell whether the tuple of integers and strings is a row."""
    return len(row) <= LONGEST and all([is_value(value) for value in row])


def compare_values(left, right):
    """Return -1, 0 or 1: whether the left value comes before, is, or comes after the right one."""
    low, high = value_place(left), value_place(right)
    if low == high:
        return 0
    return -1 if low < high else 1


def sorted_rows(rows):
    """Return a list of the rows in ascending order without duplicates."""
    return sorted(list({row: True for row in rows}), key=row_place)


def row_place(row):
    """Return what rows are ordered by."""
    return tuple([value_place(value) for value in row])


def value_place(value):
    """Return what values are ordered by: integers before words."""
    return (0 if isinstance(value, int) else 1, value)
