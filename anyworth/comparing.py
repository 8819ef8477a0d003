"""The comparison of questions for a kind of houses, and the judge of its papers and cases."""

from anyworth.cases import case_of
from anyworth.checks import is_between, is_tuple_of
from anyworth.errors import OtherWidths
from anyworth.houses import plus
from anyworth.matching import covers, fits, image, is_matching
from anyworth.papers import half_of, paired
from anyworth.plainly import plain_worth
from anyworth.questions import variables_of


def check_widths(question, other):
    """Raise OtherWidths if the widths of the questions differ."""
    if question[0] != other[0]:
        raise OtherWidths("the questions have different widths")


def judge(kind, question, other, paper):
    """Tell whether this is a paper that the questions are worth the same for the kind."""
    check_widths(question, other)
    if kind == "all":
        return is_pairing(question, other, paper)
    if not is_tuple_of(paper, 2):
        return False
    return is_half(kind, question, other, paper[0]) and is_half(kind, other, question, paper[1])


def judge_within(kind, question, other, paper):
    """Tell whether this is a half paper that the question is within the other one for the kind."""
    check_widths(question, other)
    return is_half(kind, question, other, paper)


def is_pairing(question, other, paper):
    """Tell whether this is a paper for the kind "all"."""
    many = len(other[1])
    if not is_tuple_of(paper, len(question[1])) or not all([is_pair(pair, many) for pair in paper]):
        return False
    if sorted([at for at, _ in paper]) != list(range(many)):
        return False
    return all([is_fitting("all", join, other[1][at], mapping) for join, (at, mapping) in zip(question[1], paper)])


def is_half(kind, question, other, half):
    """Tell whether this is a half paper that the question is within the other one for the kind."""
    if not is_tuple_of(half, len(question[1])):
        return False
    if kind == "sets":
        return all([is_cover(join, other, pairs) for join, pairs in zip(question[1], half)])
    return all([is_pair_for(kind, join, other, pair) for join, pair in zip(question[1], half)])


def is_cover(join, other, pairs):
    """Tell whether these are pairs of indexes and matchings that cover the join."""
    if not isinstance(pairs, tuple) or not all([is_pair_for("sets", join, other, pair) for pair in pairs]):
        return False
    return covers(join, [image(other[1][at], mapping) for at, mapping in pairs])


def is_pair_for(kind, join, other, pair):
    """Tell whether this is the index of a join of the other question and a matching from it that fits."""
    return is_pair(pair, len(other[1])) and is_fitting(kind, other[1][pair[0]], join, pair[1])


def is_fitting(kind, join, other, mapping):
    """Tell whether the map is that of a matching from the join to the other one that fits the kind."""
    return is_matching(join, other, mapping) and fits(kind, join, other, mapping)


def is_pair(pair, many):
    """Tell whether this is a pair of one of so many indexes and of a tuple of pairs."""
    return is_tuple_of(pair, 2) and is_between(pair[0], 0, many - 1) and are_pairs(pair[1])


def are_pairs(mapping):
    """Tell whether this is a tuple of pairs; what stands in them, a matching tells."""
    return isinstance(mapping, tuple) and all([is_tuple_of(binding, 2) for binding in mapping])


def compare(kind, question, other):
    """Return a paper that the questions are worth the same for the kind, or a case that parts them."""
    if kind == "all":
        return compare_joins(question, other)
    there = within(kind, question, other)
    if there[0] == "not":
        return ("apart", there[1])
    back = within(kind, other, question)
    if back[0] == "not":
        return ("apart", back[1])
    return ("same", (there[1], back[1]))


def compare_joins(question, other):
    """Return the result for the kind "all"."""
    check_widths(question, other)
    pairs, lone = paired(question, other)
    if not lone:
        return ("same", pairs)
    return ("apart", case_of("all", max(lone, key=many_variables), question, other))


def many_variables(join):
    """Return the number of the variables of a join."""
    return len(variables_of(join))


def within(kind, question, other):
    """Return a half paper that the question is within the other one, or a case that parts it from that one."""
    check_widths(question, other)
    half = half_of(kind, question, other)
    for join, entry in zip(question[1], half):
        if entry is None:
            return ("not", case_of(kind, join, question, other))
    return ("within", tuple(half))


def parts(case, question, other):
    """Tell whether the questions give the row of the case different worths."""
    check_widths(question, other)
    house, facts, row = case
    return plain_worth(house, facts, question, row) != plain_worth(house, facts, other, row)


def parts_from(case, question, other):
    """Tell whether the worth in the question adds something to the worth in the other one."""
    check_widths(question, other)
    house, facts, row = case
    worth = plain_worth(house, facts, other, row)
    return plus(house, plain_worth(house, facts, question, row), worth) != worth
