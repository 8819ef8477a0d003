"""The worths of the rows of questions, found by sheets."""

from anyworth.houses import one
from anyworth.plainly import added_up, value_of
from anyworth.questions import variables_in, variables_of
from anyworth.sheets import atom_sheet, summed_out, times_sheets, with_partners


def join_sheet(house, facts, join, order):
    """Return the sheet of the join's head, with its other variables summed out in this order."""
    return head_sheet(house, sheets_of(house, facts, join), order)


def engine_answers(house, facts, question):
    """Return the rows of the question whose worth is not zero, with their worths."""
    found = {}
    for join in question[1]:
        add_rows(house, sheets_of(house, facts, join), join, found)
    return added_up(house, found)


def answers_by_more(house, facts, more, question):
    """Return the rows and worths that further facts add to the answers for the facts.

    They are the sums over the valuations that use a further fact, where a pair of a name and
    a row counts as two: with the worth that it had, and with the worth that it has gained.
    """
    found = {}
    for join in question[1]:
        gained = sheets_of(house, more, join)
        if rows_in(gained) > 0:
            before = sheets_of(house, facts, join)
            after = sheets_of(house, facts + more, join)
            # The first atom that uses a further fact tells these valuations apart.
            for at, sheet in enumerate(gained):
                add_rows(house, before[:at] + [sheet] + after[at + 1:], join, found)
    return added_up(house, found)


def sheets_of(house, facts, join):
    """Return the list of the sheets of the join's atoms."""
    return [atom_sheet(house, facts, atom) for atom in join[1]]


def add_rows(house, sheets, join, found):
    """Add to the dict the rows of the join's head with their worths, by the sheets of its atoms."""
    columns, entries = head_sheet(house, sheets, short_order(join))
    for row, worth in entries:
        valuation = dict(zip(columns, row))
        found.setdefault(tuple([value_of(term, valuation) for term in join[0]]), []).append(worth)


def head_sheet(house, sheets, order):
    """Return the product of the sheets, with the columns of the order summed out."""
    left = thinned(sheets)
    for column in order:
        product = product_of_sheets(house, [sheet for sheet in left if column in sheet[0]])
        left = [sheet for sheet in left if column not in sheet[0]] + [summed_out(house, product, column)]
    return product_of_sheets(house, left)


def product_of_sheets(house, sheets):
    """Return the product of a list of sheets."""
    product = ((), added_up(house, {(): [one(house)]}))
    for sheet in sorted(sheets, key=rows_of_sheet):
        product = times_sheets(house, product, sheet)
    return product


def thinned(sheets):
    """Return the sheets without the rows that agree with no row of some other sheet."""
    thin = sheets
    # Such a row counts for nothing, but its sums and products may be long, so it goes first.
    many = None
    while many != rows_in(thin):
        many = rows_in(thin)
        thin = thinned_backwards(thin)
    return thin


def thinned_backwards(sheets):
    """Return the sheets, the last one first, without rows that agree with no row of another sheet as it is now."""
    done = []
    for at, sheet in enumerate(sheets):
        thin = sheet
        for other in done + sheets[at + 1:]:
            thin = with_partners(thin, other)
        done.append(thin)
    return done[::-1]


def rows_in(sheets):
    """Return the number of all rows of the sheets."""
    return sum([rows_of_sheet(sheet) for sheet in sheets])


def rows_of_sheet(sheet):
    """Return the number of the rows of a sheet."""
    return len(sheet[1])


def short_order(join):
    """Return the variables that the head has not, in an order in which few columns meet."""
    head, body = join
    kept = variables_in(head)
    waiting = [variable for variable in variables_of(join) if variable not in kept]
    scopes = [variables_in(terms) for _, terms in body]
    order = []
    while waiting:
        met = {variable: met_with(variable, scopes) for variable in waiting}
        chosen = min(waiting, key=lambda variable: len(met[variable]))
        order.append(chosen)
        waiting = [variable for variable in waiting if variable != chosen]
        scopes = [scope for scope in scopes if chosen not in scope] + [met[chosen]]
    return order


def met_with(variable, scopes):
    """Return the list of the other variables that stand together with this one."""
    return sorted({other for scope in scopes if variable in scope for other in scope if other != variable})
