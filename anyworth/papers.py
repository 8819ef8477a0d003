"""The making of papers: pairs of an index of a join and a matching that fits."""

from anyworth.matching import first_fitting, first_through, image


def half_of(kind, question, other):
    """Return a list with what a half paper has for each join of the question, or None for a join without it."""
    if kind == "sets":
        return [cover_of(join, other) for join in question[1]]
    return [pair_for(kind, join, other) for join in question[1]]


def pair_for(kind, join, other):
    """Return the index of a join of the other question and a matching from it that fits, or None."""
    for at, own in enumerate(other[1]):
        mapping = first_fitting(kind, own, join)
        if mapping is not None:
            return (at, mapping)
    return None


def cover_of(join, other):
    """Return a tuple of such pairs whose matchings cover the join, or None."""
    if not join[1]:
        pair = pair_for("yes", join, other)
        return None if pair is None else (pair,)
    pairs = []
    reached = {}
    for atom in join[1]:
        if atom not in reached:
            pair = pair_through(join, other, atom)
            if pair is None:
                return None
            pairs.append(pair)
            for made in image(other[1][pair[0]], pair[1]):
                reached[made] = True
    return tuple(pairs)


def pair_through(join, other, atom):
    """Return the index of a join of the other question and a matching whose image has the atom, or None."""
    for at, own in enumerate(other[1]):
        mapping = first_through(own, join, atom)
        if mapping is not None:
            return (at, mapping)
    return None


def paired(question, other):
    """Return a paper for the kind "all" as far as it goes, and a list of the joins that it leaves out."""
    pairs = []
    lone = []
    used = {}
    for join in question[1]:
        pair = alike_pair(join, other, used)
        if pair is None:
            lone.append(join)
        else:
            pairs.append(pair)
            used[pair[0]] = True
    lone.extend([join for at, join in enumerate(other[1]) if at not in used])
    return (tuple(pairs), lone)


def alike_pair(join, other, used):
    """Return the index of a join that is not used yet and an alike matching to it, or None."""
    for at, own in enumerate(other[1]):
        mapping = None if at in used else first_fitting("all", join, own)
        if mapping is not None:
            return (at, mapping)
    return None
