"""Sheets: tables of rows with worths, for atoms and for what is made of them."""

from anyworth.houses import times
from anyworth.plainly import added_up, extended, stored_rows
from anyworth.questions import variables_in


def atom_sheet(house, facts, atom):
    """Return the sheet of an atom for the store of the facts."""
    name, terms = atom
    columns = tuple(sorted(set(variables_in(terms))))
    stored = stored_rows(house, [fact for fact in facts if fact[0] == name])
    found = {}
    for row, worth in stored.get(name, []):
        valuation = extended({}, terms, row)
        if valuation is not None:
            found[tuple([valuation[column] for column in columns])] = [worth]
    return (columns, added_up(house, found))


def times_sheets(house, sheet, other):
    """Return the product of two sheets."""
    columns, entries = sheet
    both = columns + other[0]
    joined = tuple(sorted(set(both)))
    places = [both.index(column) for column in joined]
    shared = shared_columns(sheet, other)
    partners = rows_by(shared, other)
    mine = places_of(shared, columns)
    found = {}
    for row, worth in entries:
        for more, factor in partners.get(picked(row, mine), []):
            found[picked(row + more, places)] = [times(house, worth, factor)]
    return (joined, added_up(house, found))


def summed_out(house, sheet, column):
    """Return the sheet without the column, with the sums over its values."""
    columns, entries = sheet
    at = columns.index(column)
    found = {}
    for row, worth in entries:
        found.setdefault(row[:at] + row[at + 1:], []).append(worth)
    return (columns[:at] + columns[at + 1:], added_up(house, found))


def with_partners(sheet, other):
    """Return the sheet without the rows that agree with no row of the other one."""
    columns, entries = sheet
    shared = shared_columns(sheet, other)
    if not shared:
        return sheet if other[1] else (columns, ())
    partners = rows_by(shared, other)
    places = places_of(shared, columns)
    return (columns, tuple([entry for entry in entries if picked(entry[0], places) in partners]))


def shared_columns(sheet, other):
    """Return the list of the columns that both sheets have."""
    return [column for column in sheet[0] if column in other[0]]


def rows_by(shared, sheet):
    """Return a dict from values for the shared columns to the entries of the sheet that have them."""
    places = places_of(shared, sheet[0])
    found = {}
    for entry in sheet[1]:
        found.setdefault(picked(entry[0], places), []).append(entry)
    return found


def places_of(shared, columns):
    """Return the list of the indexes of the shared columns among the columns."""
    return [columns.index(column) for column in shared]


def picked(row, places):
    """Return the values at these places of the row."""
    return tuple([row[place] for place in places])
