"""Least questions: those that are worth the same with the fewest joins and atoms."""

from anyworth.matching import first_fitting


def least_question(kind, question):
    """Return a least question of the question for the kind."""
    width, joins = question
    if kind == "yes":
        joins = [least_join(join) for join in joins]
    return (width, tuple(without_needless(kind, list(joins))))


def without_needless(kind, joins):
    """Return the list of the joins without those that another one makes needless."""
    kept = list(joins)
    # Of joins that make each other needless, all but the last one are left out.
    for join in joins:
        at = kept.index(join)
        others = kept[:at] + kept[at + 1:]
        if any([first_fitting(kind, other, join) is not None for other in others]):
            kept = others
    return kept


def least_join(join):
    """Return the join without the atoms that add nothing for the kind "yes"."""
    least = join
    # What is not needless now will not be so when others are left out: asking once is enough.
    for atom in join[1]:
        less = without_atom(least, atom)
        if first_fitting("yes", least, less) is not None:
            least = less
    return least


def without_atom(join, atom):
    """Return the join with the atom one time less in its body."""
    head, body = join
    at = body.index(atom)
    return (head, body[:at] + body[at + 1:])
