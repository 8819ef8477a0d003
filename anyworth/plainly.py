"""The worths of rows in questions, found by trying the valuations."""

from anyworth.houses import one, sum_of, times, zero
from anyworth.questions import variables_in, variables_in_body
from anyworth.values import sorted_rows

FEW = 1000


def store_worth(house, facts, name, row):
    """Return the worth that the store of the facts gives the name and the row."""
    return sum_of(house, [worth for told, values, worth in facts if told == name and values == row])


def plain_worth(house, facts, question, row):
    """Return the worth of the row in the question."""
    stored = stored_rows(house, facts)
    products = []
    for head, body in question[1]:
        start = extended({}, head, row)
        if start is not None:
            products.extend([product for _, product in valuations(house, stored, body, start, ())])
    return sum_of(house, products)


def plain_answers(house, facts, question):
    """Return the rows of the question whose worth is not zero, with their worths."""
    stored = stored_rows(house, facts)
    products = {}
    for head, body in question[1]:
        for valuation, product in valuations(house, stored, body, {}, head):
            row = tuple([value_of(term, valuation) for term in head])
            products.setdefault(row, []).append(product)
    return added_up(house, products)


def added_up(house, parts):
    """Return the rows of the dict with the sums of their lists of worths, where these are not zero."""
    nothing = zero(house)
    sums = {row: sum_of(house, worths) for row, worths in parts.items()}
    return tuple([(row, sums[row]) for row in sorted_rows(list(sums)) if sums[row] != nothing])


def stored_rows(house, facts):
    """Return a dict from the names of the facts to their rows with the worths of these."""
    worths = {}
    for name, row, worth in facts:
        worths.setdefault((name, row), []).append(worth)
    stored = {}
    for (name, row), parts in worths.items():
        stored.setdefault(name, []).append((row, sum_of(house, parts)))
    return stored


def valuations(house, stored, body, start, head):
    """Return the valuations that go on from the start and turn all atoms into stored rows.

    Each one stands beside the product of the worths of these rows. Of many valuations, those
    that give the variables of the head and of the atoms to come alike are one, with the sum.
    """
    found = [(start, one(house))]
    # Few rows come first, for then few valuations wait for the atoms that end most of them.
    atoms = sorted(body, key=lambda atom: len(stored.get(atom[0], [])))
    are_many = False
    for at, (name, terms) in enumerate(atoms):
        longer = []
        for valuation, product in found:
            longer.extend(with_atom(house, stored.get(name, []), terms, valuation, product))
        # Few of them stay apart, as a sum on the way may be longer than what it becomes a part of.
        are_many = are_many or len(longer) > FEW
        if are_many:
            longer = put_together(house, longer, variables_in(head) + variables_in_body(atoms[at + 1:]))
        found = longer
    return found


def with_atom(house, rows, terms, valuation, product):
    """Return the valuations, with their products, that also turn the terms into one of the rows."""
    found = []
    for row, worth in rows:
        longer = extended(valuation, terms, row)
        if longer is not None:
            found.append((longer, times(house, product, worth)))
    return found


def put_together(house, found, needed):
    """Return the valuations of the needed variables, with the sums of the products."""
    kept = {variable: True for variable in needed}
    products = {}
    for valuation, product in found:
        # All these valuations give the same variables their values, in the same order.
        rest = tuple([pair for pair in valuation.items() if pair[0] in kept])
        products.setdefault(rest, []).append(product)
    return [(dict(rest), sum_of(house, parts)) for rest, parts in products.items()]


def extended(valuation, terms, row):
    """Return the valuation with what the terms need to turn into the row, or None."""
    if len(terms) != len(row):
        return None
    longer = dict(valuation)
    for (kind, held), value in zip(terms, row):
        if kind == "var" and longer.setdefault(held, value) != value:
            return None
        if kind == "value" and held != value:
            return None
    return longer


def value_of(term, valuation):
    """Return the value that the valuation turns the term into."""
    kind, held = term
    return valuation[held] if kind == "var" else held
