"""The search for maps from the variables of a join to terms of another join."""

from anyworth.questions import variables_in_body


def found_maps(join, other, room, most):
    """Return dicts of the matchings to the other join, at most so many of them.

    Each atom of the other join may be an image as often as the dict `room` tells, or any
    number of times where it tells None.
    """
    start = with_terms({}, join[0], other[0])
    return [] if start is None else maps_from(start, join[1], room, {}, most)


def maps_from(start, body, room, dead, most):
    """Return at most so many dicts that go on from the start and turn the body into atoms in `room`.

    The dict `dead` gets what was found to be in vain, and serves for the same room again.
    """
    found = []
    targets = list(room)
    go_on(list(body), start, targets, tuple([room[target] for target in targets]), dead, found, most)
    return found


def go_on(atoms, terms, targets, room, dead, found, most):
    """Add to the found maps those that go on from the terms and turn the atoms into targets."""
    if not atoms:
        found.append(terms)
        return
    # What is still possible hangs on these things alone.
    state = (tuple(atoms), tuple([terms.get(variable) for variable in variables_in_body(atoms)]), room)
    if state in dead:
        return
    before = len(found)
    at, choices = narrowest(atoms, terms, targets, room)
    for place, longer in choices:
        if len(found) != most:
            go_on(atoms[:at] + atoms[at + 1:], longer, targets, with_less(room, place), dead, found, most)
    if len(found) == before:
        dead[state] = True


def narrowest(atoms, terms, targets, room):
    """Return the index of the atom with the fewest choices, and its choices."""
    chosen, fewest = 0, None
    for at, atom in enumerate(atoms):
        choices = choices_of(atom, terms, targets, room)
        if fewest is None or len(choices) < len(fewest):
            chosen, fewest = at, choices
    return (chosen, fewest)


def choices_of(atom, terms, targets, room):
    """Return the places of the targets that the atom may become, each with the terms for it."""
    choices = []
    for place, target in enumerate(targets):
        if room[place] != 0:
            longer = with_atoms(terms, atom, target)
            if longer is not None:
                choices.append((place, longer))
    return choices


def with_less(room, place):
    """Return the room when the target at this place has become an image once more."""
    if room[place] is None:
        return room
    return room[:place] + (room[place] - 1,) + room[place + 1:]


def with_atoms(terms, atom, target):
    """Return the terms with what the atom needs to become the target, or None."""
    return with_terms(terms, atom[1], target[1]) if atom[0] == target[0] else None


def with_terms(terms, own, others):
    """Return the terms with what the own terms need to become the other ones, or None."""
    if len(own) != len(others):
        return None
    longer = dict(terms)
    for term, other in zip(own, others):
        kind, held = term
        if kind == "var" and longer.setdefault(held, other) != other:
            return None
        if kind == "value" and term != other:
            return None
    return longer
