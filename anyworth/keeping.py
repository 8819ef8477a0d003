"""The formulas of kept questions: how they are found, kept up to date and read."""

from anyworth.engine import answers_by_more, engine_answers
from anyworth.formulas import plus_formulas, read_formula, tag_formula, without_tags
from anyworth.houses import zero
from anyworth.values import sorted_rows

FORMULAS = ("formulas",)


def formulas_of(question, facts):
    """Return the rows of the question with their formulas, for a dict of the facts by their numbers."""
    return engine_answers(FORMULAS, tagged(facts, list(facts)), question)


def tagged(facts, numbers):
    """Return the list of the facts with these numbers, with the formulas of their tags as worths."""
    return [(facts[number][0], facts[number][1], tag_formula(number)) for number in numbers]


def formulas_after(question, formulas, before, after):
    """Return the rows of the question with their formulas, when the facts before have become those after."""
    withdrawn = [number for number in before if number not in after]
    stayed = [number for number in before if number in after]
    told = [number for number in after if number not in before]
    if not withdrawn and not told:
        return formulas
    found = {row: without_tags(formula, withdrawn) for row, formula in formulas}
    for row, formula in answers_by_more(FORMULAS, tagged(after, stayed), tagged(after, told), question):
        found[row] = plus_formulas(found.get(row, ()), formula)
    return tuple([(row, found[row]) for row in sorted_rows(list(found)) if found[row] != ()])


def changes_between(before, after):
    """Return the rows whose formulas differ, with both of their formulas."""
    earlier = {row: formula for row, formula in before}
    later = {row: formula for row, formula in after}
    found = []
    for row in sorted_rows(list(earlier) + list(later)):
        if earlier.get(row, ()) != later.get(row, ()):
            found.append((row, earlier.get(row, ()), later.get(row, ())))
    return tuple(found)


def answers_in(house, formulas, worths):
    """Return the rows with the worths of their formulas in a house, where these are not zero."""
    nothing = zero(house)
    read = [(row, read_formula(house, formula, worths)) for row, formula in formulas]
    return tuple([(row, worth) for row, worth in read if worth != nothing])
