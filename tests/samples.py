"""Houses with some of their worths, and values that are not worths of them."""

BIG = 10 ** 40


def table_of(worths, one, plus, times):
    """Return the table of a finite house whose worths are listed, zero first."""
    plus_rows = tuple(tuple(worths.index(plus(a, b)) for b in worths) for a in worths)
    times_rows = tuple(tuple(worths.index(times(a, b)) for b in worths) for a in worths)
    return ("table", worths.index(one), plus_rows, times_rows)


def union(a, b):
    return a | b


def all_sums_modulo_two(a, b):
    return frozenset((x + y) % 2 for x in a for y in b)


def all_ors(a, b):
    return frozenset(x | y for x in a for y in b)


def least_of(a, b):
    return b if a is None else a if b is None else min(a, b)


def sum_below_two(a, b):
    return None if a is None or b is None or a + b >= 2 else a + b


LOTS_OF_TWO = [frozenset(), frozenset([0]), frozenset([1]), frozenset([0, 1])]

ONE_WORTH = ("table", 0, ((0,),), ((0,),))
YES = ("table", 1, ((0, 1), (1, 1)), ((0, 0), (0, 1)))
MODULO_THREE = table_of([0, 1, 2], 1, lambda a, b: (a + b) % 3, lambda a, b: a * b % 3)
CHAIN_OF_SIX = table_of([0, 1, 2, 3, 4, 5], 5, max, min)
# A house of the kind "once" only, one of the kind "sets" but not "prices", and
# one of the kind "prices" but not "sets".
SUMS_TABLE = table_of(LOTS_OF_TWO, frozenset([0]), union, all_sums_modulo_two)
FAMILIES_TABLE = table_of(LOTS_OF_TWO, frozenset([0]), union, all_ors)
PRICES_TABLE = table_of([None, 0, 1], 0, least_of, sum_below_two)

X = ((((1, 1),), 1),)
Y = ((((2, 1),), 1),)
X_SQUARED_TWICE_AND_Y = ((((1, 2),), 2), (((2, 1),), 1))

# Of each house some worths; zero and one are among them.
WORTHS = {
    ("counts",): [0, 1, 2, 7, BIG],
    ("capped", 1): [0, 1],
    ("capped", 2): [0, 1, 2],
    ("capped", 5): [0, 1, 2, 4, 5],
    ("capped", BIG): [0, 1, 2, BIG - 1, BIG],
    ("modulo", 1): [0],
    ("modulo", 2): [0, 1],
    ("modulo", 6): [0, 1, 2, 3, 4, 5],
    ("modulo", BIG): [0, 1, 2, BIG // 2, BIG - 1],
    ("yes",): [0, 1],
    ("chain", 1): [0, 1],
    ("chain", 4): [0, 1, 2, 3, 4],
    ("chain", BIG): [0, 1, BIG - 1, BIG],
    ("divisors", 1): [1],
    ("divisors", 12): [1, 2, 3, 4, 6, 12],
    ("divisors", BIG): [1, 2, 5, 16, 625, 2 ** 40, 5 ** 40, BIG],
    ("least",): [None, 0, 1, 5, BIG],
    ("prices", 1): [(), ((0,),), ((3,),), ((BIG,),)],
    ("prices", 2): [(), ((0, 0),), ((1, 4),), ((2, 2), (3, 1)), ((0, 9), (2, 3), (5, 0)), ((BIG, 0),)],
    ("prices", 3): [(), ((0, 0, 0),), ((0, 1, 2), (1, 1, 0)), ((0, 0, 5), (0, 5, 0), (5, 0, 0))],
    ("prices", 40): [(), ((0,) * 40,), ((1,) * 40,), ((0,) * 39 + (2,), (2,) + (0,) * 39)],
    ("sums",): [(), (0,), (1,), (0, 2, 5), (3, BIG)],
    ("families",): [(), (0,), (1,), (1, 2, 3), (0, 4), (5, 6, 7), (3, 2 ** 100, 2 ** 100 + 3)],
    ("formulas",): [
        (),
        (((), 1),),
        (((), 3),),
        X,
        Y,
        X_SQUARED_TWICE_AND_Y,
        (((), BIG), (((1, 1), (2, BIG)), 4), (((BIG, 1),), 1)),
    ],
    ONE_WORTH: [0],
    YES: [0, 1],
    MODULO_THREE: [0, 1, 2],
    CHAIN_OF_SIX: [0, 1, 2, 3, 4, 5],
    SUMS_TABLE: [0, 1, 2, 3],
    FAMILIES_TABLE: [0, 1, 2, 3],
    PRICES_TABLE: [0, 1, 2],
    ("pair", ("counts",), ("least",)): [(0, None), (1, 0), (2, 3), (0, 0), (BIG, None)],
    ("pair", ("sums",), ("pair", ("yes",), ("divisors", 6))): [
        ((), (0, 1)),
        ((0,), (1, 6)),
        ((1, 4), (0, 3)),
        ((2,), (1, 2)),
    ],
    ("pair", ("pair", ("prices", 1), ("formulas",)), ("families",)): [
        (((), ()), ()),
        ((((0,),), (((), 1),)), (0,)),
        ((((4,),), X), (1, 2, 3)),
        ((((2,),), X_SQUARED_TWICE_AND_Y), (6,)),
    ],
}

# Of each house some values that are not worths of it.
BAD_WORTHS = {
    ("counts",): [None, -1, -BIG, (), (0,), (1, 2)],
    ("capped", 1): [None, -1, 2, (), (0,)],
    ("capped", 5): [None, -1, 6, BIG, (), (1,)],
    ("capped", BIG): [None, -1, BIG + 1, ()],
    ("modulo", 1): [None, -1, 1, ()],
    ("modulo", 6): [None, -1, 6, 7, (), (0,)],
    ("modulo", BIG): [None, -1, BIG, ()],
    ("yes",): [None, -1, 2, (), (1,)],
    ("chain", 1): [None, -1, 2, ()],
    ("chain", 4): [None, -1, 5, BIG, (), (4,)],
    ("chain", BIG): [None, -1, BIG + 1, ()],
    ("divisors", 1): [None, 0, -1, 2, ()],
    ("divisors", 12): [None, 0, -1, -2, -12, 5, 8, 13, 24, (), (1,)],
    ("divisors", BIG): [None, 0, -1, 3, BIG + 1, 10 * BIG],
    ("least",): [-1, -BIG, (), (None,), (0,)],
    ("prices", 1): [
        None,
        0,
        3,
        (0,),
        (None,),
        ((),),
        ((0, 0),),
        ((-1,),),
        ((None,),),
        (((0,),),),
        ((0,), (1,)),
        ((1,), (0,)),
        ((3,), (3,)),
    ],
    ("prices", 2): [
        None,
        7,
        (1, 2),
        ((1,),),
        ((1, 2, 3),),
        ((-1, 2),),
        ((2, -1),),
        ((None, 2),),
        ((2, None),),
        ((1, (2,)),),
        ((1, 2), 3),
        ((1, 2), None),
        ((1, 4), (1, 4)),
        ((2, 2), (1, 4)),
        ((1, 4), (1, 5)),
        ((1, 4), (2, 4)),
        ((1, 4), (2, 5)),
        ((0, 0), (5, 5)),
        ((0, 9), (2, 3), (4, 3)),
        ((0, 9), (2, 3), (5, 0), (6, 1)),
    ],
    ("prices", 3): [((0, 0),), ((0, 0, 0, 0),), ((0, 0, 5), (0, 5, 0), (0, 5, 1)), ((0, 1, 2), (1, 1, 2))],
    ("prices", 40): [((0,) * 39,), ((0,) * 41,), ((0,) * 39 + (-1,),), ((0,) * 40, (0,) * 39 + (1,))],
    ("sums",): [None, 0, 3, (None,), (-1,), (-1, 0), ((),), ((0,),), (0, 0), (2, 1), (0, 5, 2), (1, 2, 2), (1, (2,))],
    ("families",): [
        None,
        0,
        (None,),
        (-1,),
        (-2, -1),
        ((0,),),
        (1, 1),
        (3, 2, 1),
        (1, 3, 2),
        (1, 2),
        (1, 2, 4, 7),
        (0, 5, 6),
        (1, 2, 3, 4, 5, 6),
    ],
    ("formulas",): [
        None,
        0,
        1,
        (1,),
        (None,),
        ((),),
        ((), 1),
        (((), 1, 1),),
        (((),),),
        (((), 0),),
        (((), -1),),
        (((), None),),
        (((), ()),),
        ((None, 1),),
        ((1, 1),),
        (((1,), 1),),
        (((1, 1), 1),),
        ((((1, 1, 1),), 1),),
        ((((1,),), 1),),
        ((((0, 1),), 1),),
        ((((-1, 1),), 1),),
        ((((1, 0),), 1),),
        ((((1, -1),), 1),),
        ((((None, 1),), 1),),
        ((((1, None),), 1),),
        ((((1, 1),), 0),),
        ((((1, 1), (1, 1)), 1),),
        ((((1, 1), (1, 2)), 1),),
        ((((2, 1), (1, 1)), 1),),
        ((((1, 1),), 1), ((), 1)),
        ((((2, 1),), 1), (((1, 1),), 1)),
        ((((1, 2),), 1), (((1, 1),), 1)),
        ((((1, 1),), 1), (((1, 1),), 1)),
        ((((1, 1),), 1), (((1, 1),), 2)),
        (((), 1), 1),
    ],
    ONE_WORTH: [None, -1, 1, ()],
    YES: [None, -1, 2, (), (0,)],
    CHAIN_OF_SIX: [None, -1, 6, BIG, ()],
    ("pair", ("counts",), ("sums",)): [
        None,
        0,
        3,
        (),
        (3,),
        (3, (1,), 0),
        (3, (1,), (1,)),
        ((1,), 3),
        (None, (1,)),
        (3, None),
        (-1, (1,)),
        (3, (2, 1)),
        (3, 1),
    ],
    ("pair", ("least",), ("pair", ("yes",), ("formulas",))): [
        (None, 1),
        (None, (1,)),
        (None, (1, (), ())),
        (None, ((), 1)),
        (None, (2, ())),
        (None, (1, ((((0, 1),), 1),))),
        ((1, ()), None),
        (-1, (1, ())),
    ],
}


def nested_left(house, depth):
    """Return a house of this depth with the given one at the bottom on the left."""
    for _ in range(depth - 1):
        house = ("pair", house, ("yes",))
    return house


def nested_right(house, depth):
    """Return a house of this depth with the given one at the bottom on the right."""
    for _ in range(depth - 1):
        house = ("pair", ("yes",), house)
    return house


def worth_left(worth, depth):
    """Return a worth of nested_left, with the given worth at the bottom."""
    for _ in range(depth - 1):
        worth = (worth, 1)
    return worth


def worth_right(worth, depth):
    """Return a worth of nested_right, with the given worth at the bottom."""
    for _ in range(depth - 1):
        worth = (1, worth)
    return worth


def has_plain_parts(value):
    """Tell whether a value is made of tuples, integers and None only."""
    if type(value) is tuple:
        return all(has_plain_parts(item) for item in value)
    return value is None or type(value) is int
