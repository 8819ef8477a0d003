"""Joins and questions for the tests, and plain ways to find what is promised of them."""

import itertools
from collections import Counter

from anyworth.reading import read_question
from tests.terms import val, var

HALF_KINDS = ("once", "sets", "prices", "yes")


def join_of(text):
    """Return the only join of the question with this text."""
    (join,) = read_question(text)[1]
    return join


def map_of(**terms):
    """Return the map that gives each variable its term: words are variables, lists hold a value."""
    return tuple((x, val(*held) if isinstance(held, list) else var(held)) for x, held in sorted(terms.items()))


def term_key(term):
    """Return what [17] orders terms by."""
    kind, held = term
    if kind == "value":
        return (0, 0, held, "") if isinstance(held, int) else (0, 1, 0, held)
    return (1, 0, 0, held)


def variables(join):
    head, body = join
    return sorted({x for terms in [head] + [terms for _, terms in body] for kind, x in terms if kind == "var"})


def put(terms, mapping):
    return tuple(mapping[held] if kind == "var" else (kind, held) for kind, held in terms)


def put_all(atoms, mapping):
    return tuple((name, put(terms, mapping)) for name, terms in atoms)


def plain_matchings(join, other):
    """Return the list of all matchings, found by trying all maps, in ascending order."""
    head, body = other
    told = sorted({term for terms in [head] + [terms for _, terms in body] for term in terms}, key=term_key)
    names = variables(join)
    found = []
    for terms in itertools.product(told, repeat=len(names)):
        mapping = dict(zip(names, terms))
        if put(join[0], mapping) == head and set(put_all(join[1], mapping)) <= set(body):
            found.append(tuple(zip(names, terms)))
    return found


def plainly_fits(kind, join, other, mapping):
    made, whole = Counter(put_all(join[1], dict(mapping))), Counter(other[1])
    terms = [term for _, term in mapping]
    return {
        "all": made == whole and len(set(terms)) == len(terms) and all(kind == "var" for kind, _ in terms),
        "once": made == whole,
        "prices": made <= whole,
    }.get(kind, True)


def plain_fitting(kind, join, other):
    """Return the list of the matchings that fit the kind."""
    return [mapping for mapping in plain_matchings(join, other) if plainly_fits(kind, join, other, mapping)]


def has_entry(kind, join, other):
    """Tell whether half papers of the kind can have the join."""
    fitting = [put_all(own[1], dict(mapping)) for own in other[1] for mapping in plain_fitting(kind, own, join)]
    if kind == "sets":
        return bool(fitting) and set(join[1]) <= {atom for made in fitting for atom in made}
    return bool(fitting)


def is_within(kind, question, other):
    return all(has_entry(kind, join, other) for join in question[1])


def is_same(kind, question, other):
    if kind != "all":
        return is_within(kind, question, other) and is_within(kind, other, question)
    rest = list(other[1])
    for join in question[1]:
        alike = [own for own in rest if plain_fitting("all", join, own)]
        if not alike:
            return False
        rest.remove(alike[0])
    return not rest


def some_term(chance, variables="xyz", values=(1, 2, "a")):
    return var(chance.choice(variables)) if chance.randrange(5) else val(chance.choice(values))


def some_join(chance, width, names="pq", most=3, variables="xyz"):
    """Return a valid join for the width; each name has atoms with one number of terms."""
    body = []
    for _ in range(chance.randrange(most + 1)):
        name = chance.choice(names)
        body.append((name, tuple(some_term(chance, variables) for _ in range(2 if name == "q" else 1))))
    told = [term for _, terms in body for term in terms] + [val(1)]
    return (tuple(chance.choice(told) for _ in range(width)), tuple(body))


def some_joins(chance, width, many, **options):
    return (width, tuple(some_join(chance, width, **options) for _ in range(many)))


def turned_about(chance, question):
    """Return the question with other variables, and with its joins and atoms in another order."""
    joins = []
    for join in question[1]:
        names = variables(join)
        others = chance.sample("abcdefghijklmnopqrstuvwxyz", len(names))
        mapping = {x: var(y) for x, y in zip(names, others)}
        body = list(put_all(join[1], mapping))
        chance.shuffle(body)
        joins.append((put(join[0], mapping), tuple(body)))
    chance.shuffle(joins)
    return (question[0], tuple(joins))


def is_good_pair(kind, join, other, pair):
    """Tell whether this is an index of the other question and a fitting matching from its join to the join."""
    if not (isinstance(pair, tuple) and len(pair) == 2 and isinstance(pair[0], int)):
        return False
    return 0 <= pair[0] < len(other[1]) and pair[1] in plain_fitting(kind, other[1][pair[0]], join)


def is_good_half(kind, question, other, half):
    """Tell by the words of [26] whether this is a half paper."""
    if not (isinstance(half, tuple) and len(half) == len(question[1])):
        return False
    if kind != "sets":
        return all(is_good_pair(kind, join, other, pair) for join, pair in zip(question[1], half))
    for join, pairs in zip(question[1], half):
        if not (isinstance(pairs, tuple) and pairs and all(is_good_pair(kind, join, other, pair) for pair in pairs)):
            return False
        images = [put_all(other[1][at][1], dict(mapping)) for at, mapping in pairs]
        if not set(join[1]) <= {atom for made in images for atom in made}:
            return False
    return True


def is_good_paper(kind, question, other, paper):
    """Tell by the words of [26] whether this is a paper."""
    if kind != "all":
        if not (isinstance(paper, tuple) and len(paper) == 2):
            return False
        return is_good_half(kind, question, other, paper[0]) and is_good_half(kind, other, question, paper[1])
    if not (isinstance(paper, tuple) and len(paper) == len(question[1]) == len(other[1])):
        return False
    for join, pair in zip(question[1], paper):
        if not (isinstance(pair, tuple) and len(pair) == 2 and isinstance(pair[0], int) and 0 <= pair[0] < len(paper)):
            return False
        if pair[1] not in plain_fitting(kind, join, other[1][pair[0]]):
            return False
    return sorted(at for at, _ in paper) == list(range(len(paper)))
