"""Questions: which ones are valid, and joins with other variables or terms."""

from anyworth.errors import NoQuestion
from anyworth.values import is_value, is_word, value_place

WIDEST = 8
MOST_JOINS = 12
MOST_ATOMS = 8
MOST_TERMS = 8


def check_question(question):
    """Raise NoQuestion if the question is not valid."""
    width, joins = question
    if not 0 <= width <= WIDEST or len(joins) > MOST_JOINS:
        raise NoQuestion(None)
    for at, join in enumerate(joins):
        if not is_join(join, width):
            raise NoQuestion(at)


def is_join(join, width):
    """Tell whether a join is valid for the width."""
    head, body = join
    if len(head) != width or len(body) > MOST_ATOMS:
        return False
    if not are_terms(head) or not all([is_atom(atom) for atom in body]):
        return False
    told = variables_in_body(body)
    return all([variable in told for variable in variables_in(head)])


def is_atom(atom):
    """Tell whether an atom of a join is valid."""
    name, terms = atom
    return is_word(name) and len(terms) <= MOST_TERMS and are_terms(terms)


def are_terms(terms):
    """Tell whether all variables are words and all values are integers or words."""
    return all([is_word(held) if kind == "var" else is_value(held) for kind, held in terms])


def variables_in(terms):
    """Return the list of the variables among the terms, as often as they stand there."""
    return [held for kind, held in terms if kind == "var"]


def variables_in_body(body):
    """Return the list of the variables in the atoms, as often as they stand there."""
    return [variable for _, terms in body for variable in variables_in(terms)]


def variables_of(join):
    """Return the variables of a join in alphabetical order."""
    head, body = join
    return tuple(sorted(set(variables_in(head) + variables_in_body(body))))


def renamed(join, names):
    """Return the join whose variables have the names that the dict tells."""
    return put_terms(join, {variable: ("var", name) for variable, name in names.items()})


def put_terms(join, terms):
    """Return the join in which variables are replaced by their terms, all at once."""
    head, body = join
    return (put_in(head, terms), tuple([(name, put_in(told, terms)) for name, told in body]))


def put_in(told, terms):
    """Return the told terms with the variables replaced that have a term."""
    return tuple([terms.get(term[1], term) if term[0] == "var" else term for term in told])


def term_place(term):
    """Return what terms are ordered by: values before variables."""
    kind, held = term
    return (0, value_place(held)) if kind == "value" else (1, held)
