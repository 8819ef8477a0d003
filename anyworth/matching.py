"""Matchings from a join to another one, their images, and which of them fit a kind of houses."""

from anyworth.questions import put_terms, term_place, variables_of
from anyworth.searching import found_maps, maps_from, with_atoms, with_terms


def matchings(join, other):
    """Return the list of all matchings from the join to the other one, in ascending order."""
    found = found_maps(join, other, room_without_end(other), None)
    return sorted([written(terms) for terms in found], key=map_place)


def written(terms):
    """Return the map of a dict from variables to terms."""
    return tuple([(variable, terms[variable]) for variable in sorted(terms)])


def map_place(mapping):
    """Return what the maps of one join are ordered by."""
    return tuple([term_place(term) for _, term in mapping])


def is_matching(join, other, mapping):
    """Tell whether this is the map of a matching from the join to the other one."""
    if tuple([variable for variable, _ in mapping]) != variables_of(join):
        return False
    head, body = put_terms(join, dict(mapping))
    return head == other[0] and all([atom in other[1] for atom in body])


def image(join, mapping):
    """Return the atoms that the body of the join becomes."""
    return put_terms(join, dict(mapping))[1]


def fits(kind, join, other, mapping):
    """Tell whether a matching is such a one as the papers of the kind need."""
    made = times_in(image(join, mapping))
    whole = times_in(other[1])
    match kind:
        case "all":
            return made == whole and is_renaming(mapping)
        case "once":
            return made == whole
        case "prices":
            return all([many <= whole.get(atom, 0) for atom, many in made.items()])
    return True


def is_renaming(mapping):
    """Tell whether the map gives different variables different variables."""
    terms = [term for _, term in mapping]
    return len(set(terms)) == len(terms) and all([kind == "var" for kind, _ in terms])


def times_in(atoms):
    """Return a dict from the atoms to the numbers of times that they stand there."""
    found = {}
    for atom in atoms:
        found[atom] = found.get(atom, 0) + 1
    return found


def covers(join, images):
    """Tell whether there is an image, and each atom of the join's body stands in one."""
    reached = {atom: True for atoms in images for atom in atoms}
    return len(images) > 0 and all([atom in reached for atom in join[1]])


def room_without_end(join):
    """Return a dict of the atoms of the join, each of which may be an image any number of times."""
    return {atom: None for atom in join[1]}


def first_fitting(kind, join, other):
    """Return the map of a matching that fits the kind, which is not "sets", or None if there is none."""
    if not may_fit(kind, join, other):
        return None
    room = room_without_end(other) if kind == "yes" else times_in(other[1])
    found = found_maps(join, other, room, 1)
    return written(found[0]) if found else None


def may_fit(kind, join, other):
    """Tell whether the numbers of atoms and variables allow a matching that fits.

    Where they do, a part is what is asked for: a part with all atoms is exact, and it is
    alike if there are as many variables, as then each one must become another variable.
    """
    if kind == "all" and len(variables_of(join)) != len(variables_of(other)):
        return False
    return kind in ("yes", "prices") or len(join[1]) == len(other[1])


def first_through(join, other, atom):
    """Return the map of a matching whose image has this atom of the other join, or None."""
    dead = {}
    start = with_terms({}, join[0], other[0])
    if start is not None:
        for own in join[1]:
            terms = with_atoms(start, own, atom)
            found = [] if terms is None else maps_from(terms, join[1], room_without_end(other), dead, 1)
            if found:
                return written(found[0])
    return None
