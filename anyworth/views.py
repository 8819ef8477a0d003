"""Views: questions under a name, and questions that ask for them."""

from anyworth.engine import engine_answers
from anyworth.questions import put_in, put_terms, renamed, variables_of


def unified(terms, others):
    """Return a map that unifies two tuples of terms, or None if there is none."""
    found = unifier({}, terms, others)
    return None if found is None else tuple([(variable, found[variable]) for variable in sorted(found)])


def unifier(known, terms, others):
    """Return a dict from variables to terms that unifies the tuples and goes on from the known one, or None."""
    found = dict(known)
    for pair in zip(terms, others):
        term, other = put_in(pair, found)
        if term[0] == "value":
            term, other = other, term
        if term != other:
            if term[0] == "value":
                return None
            step = {term[1]: other}
            found = {variable: put_in((told,), step)[0] for variable, told in found.items()}
            found[term[1]] = other
    return found


def expanded(question, views):
    """Return the expanded question for the views."""
    width, joins = question
    questions = dict(views)
    used = {variable: True for join in joins for variable in variables_of(join)}
    found = []
    for join in joins:
        found.extend(expanded_joins(join, choices_in(join, questions, used)))
    return (width, tuple(found))


def choices_in(join, questions, used):
    """Return a dict from the places of the atoms with names of views to the joins that they may become.

    The joins have variables of their own: none that is used, and none of another place.
    """
    taken = dict(used)
    choices = {}
    for place, (name, _) in enumerate(join[1]):
        if name in questions:
            choices[place] = [own_names(chosen, taken) for chosen in questions[name][1]]
            for chosen in choices[place]:
                for variable in variables_of(chosen):
                    taken[variable] = True
    return choices


def own_names(join, taken):
    """Return the join with variables that are not taken."""
    names = {}
    new = dict(taken)
    for variable in variables_of(join):
        names[variable] = free_word(variable, new)
        new[names[variable]] = True
    return renamed(join, names)


def free_word(word, taken):
    """Return the word, made longer until it is not taken."""
    longer = word
    while longer in taken:
        longer = longer + "a"
    return longer


def expanded_joins(join, choices):
    """Return the list of the joins that the join becomes by the choices, in their order."""
    found = []
    choose(join, choices, {}, {}, found)
    return [put_terms(chosen_join(join, choices, chosen), terms) for chosen, terms in sorted(found, key=choice_place)]


def choice_place(choice):
    """Return what choices are ordered by: the indexes of the joins, place by place."""
    chosen = choice[0]
    return tuple([chosen[place] for place in sorted(chosen)])


def choose(join, choices, chosen, terms, found):
    """Add to the found ones all choices, with their unifying terms, that go on from the chosen ones."""
    waiting = [place for place in choices if place not in chosen]
    if not waiting:
        found.append((chosen, terms))
        return
    fitting = {place: fitting_joins(join[1][place][1], choices[place], terms) for place in waiting}
    # The place with the fewest joins comes first, so that what ends many choices is seen early.
    narrow = min(waiting, key=lambda place: len(fitting[place]))
    for at, longer in fitting[narrow]:
        choose(join, choices, {**chosen, narrow: at}, longer, found)


def fitting_joins(told, joins, terms):
    """Return the indexes of the joins whose heads can be unified with the told terms, with all terms for it."""
    found = []
    for at, (head, _) in enumerate(joins):
        longer = unifier(terms, head, told) if len(told) == len(head) else None
        if longer is not None:
            found.append((at, longer))
    return found


def chosen_join(join, choices, chosen):
    """Return the join in which atoms are replaced by the bodies of their chosen joins."""
    head, body = join
    atoms = []
    for place, atom in enumerate(body):
        atoms.extend(choices[place][chosen[place]][1] if place in chosen else (atom,))
    return (head, tuple(atoms))


def with_views(house, facts, views):
    """Return the facts without those under the names of views, and behind them the facts of the views."""
    names = {name: True for name, _ in views}
    found = [fact for fact in facts if fact[0] not in names]
    for name, question in views:
        found.extend([(name, row, worth) for row, worth in engine_answers(house, facts, question)])
    return found
