"""Houses that are given by tables."""

LARGEST = 6

# The equations of a house, in the order in which their faults are told.
EQUATIONS = (
    "plus turns",
    "plus joins",
    "zero adds",
    "times turns",
    "times joins",
    "one keeps",
    "spreads",
    "zero kills",
)


def fault_of(house):
    """Return the first fault of a table, or None if it has none."""
    if not has_form(house):
        return ("form",)
    for name in EQUATIONS:
        triple = least_break(house, name)
        if triple is not None:
            return (name, *triple)
    return None


def has_form(house):
    """Tell whether the sizes and the items of a table are in their ranges."""
    one, plus, times = house[1:]
    size = len(plus)
    return 1 <= size <= LARGEST and is_square(plus, size) and is_square(times, size) and 0 <= one < size


def is_square(rows, size):
    """Tell whether the rows are as many as the size, and each of them is right."""
    return len(rows) == size and all([is_table_row(row, size) for row in rows])


def is_table_row(row, size):
    """Tell whether a row has as many items as the size, each of them a worth."""
    return len(row) == size and all([0 <= item < size for item in row])


def least_break(house, name):
    """Return the least triple of worths for which the equation fails, or None."""
    worths = range(len(house[2]))
    # Worths that an equation does not name stay 0 in its least triple, because
    # the triples are tried in ascending order.
    for a in worths:
        for b in worths:
            for c in worths:
                if not holds(house, name, a, b, c):
                    return (a, b, c)
    return None


def holds(house, name, a, b, c):
    """Tell whether the equation of this name holds for the three worths."""
    one, plus, times = house[1:]
    match name:
        case "plus turns":
            return plus[a][b] == plus[b][a]
        case "plus joins":
            return plus[plus[a][b]][c] == plus[a][plus[b][c]]
        case "zero adds":
            return plus[0][a] == a
        case "times turns":
            return times[a][b] == times[b][a]
        case "times joins":
            return times[times[a][b]][c] == times[a][times[b][c]]
        case "one keeps":
            return times[one][a] == a
        case "spreads":
            return times[a][plus[b][c]] == plus[times[a][b]][times[a][c]]
        case "zero kills":
            return times[0][a] == 0


def kinds_of_table(house):
    """Return the kinds of a table without a fault."""
    one, plus, times = house[1:]
    worths = range(len(plus))
    doubles_keep = all([plus[a][a] == a for a in worths])
    squares_keep = all([times[a][a] == a for a in worths])
    one_covers = all([plus[one][a] == one for a in worths])
    kinds = ["all"]
    if doubles_keep:
        kinds.append("once")
    if doubles_keep and squares_keep:
        kinds.append("sets")
    if one_covers:
        kinds.append("prices")
    if one_covers and squares_keep:
        kinds.append("yes")
    return tuple(kinds)
