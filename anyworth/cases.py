"""The making of cases: a house, facts and a row for which questions have other worths."""

from anyworth.formulas import plus_formulas, tag_formula
from anyworth.plainly import plain_worth
from anyworth.questions import put_terms, variables_of
from anyworth.reducing import parting

FORMULAS = ("formulas",)


def case_of(kind, join, question, other):
    """Return a case in which the worths of the questions differ, by what the join is turned into.

    The join is one of the question that a half paper of the kind cannot have; for the kind
    "all", one that more joins of one question than of the other one are alike to, and that has
    the most variables among such joins.
    """
    rows, row = frozen(join, first_free(question, other))
    facts = [(name, values, tag_formula(at + 1)) for at, (name, values) in enumerate(rows)]
    formula = plain_worth(FORMULAS, facts, question, row)
    against = plain_worth(FORMULAS, facts, other, row)
    if kind != "all":
        formula = plus_formulas(formula, against)
    house, pairs = parting(kind, formula, against)
    # Each fact is used by the join, so each tag stands in a formula and has a worth.
    worths = dict(pairs)
    return (house, tuple([(name, values, worths[at + 1]) for at, (name, values) in enumerate(rows)]), row)


def frozen(join, first):
    """Return the names and rows that the atoms of the join turn into, each once, and the row of the head.

    The variables become integers from the first one on.
    """
    terms = {variable: ("value", first + at) for at, variable in enumerate(variables_of(join))}
    head, body = put_terms(join, terms)
    rows = {(name, row_of(told)): True for name, told in body}
    return (list(rows), row_of(head))


def row_of(terms):
    """Return the row of terms that are values."""
    return tuple([value for _, value in terms])


def first_free(question, other):
    """Return an integer that is greater than all integers in the questions."""
    return 1 + max(integers_in(question) + integers_in(other), default=0)


def integers_in(question):
    """Return the list of the integers that stand in a question."""
    found = []
    for head, body in question[1]:
        for terms in [head] + [told for _, told in body]:
            found.extend([held for _, held in terms if isinstance(held, int)])
    return found
