"""Deeds: what tells, withdraws and changes the facts of a store."""

from anyworth.errors import NoFact, NoRow, NoWorth
from anyworth.houses import is_worth
from anyworth.values import is_row, is_word


def facts_after(house, facts, last, deeds):
    """Return a dict of the facts by their numbers after the deeds, and a list of the numbers that they told.

    The last number that was given before is `last`.
    """
    after = dict(facts)
    numbers = []
    for deed in deeds:
        match deed[0]:
            case "tell":
                _, name, row, worth = deed
                check_row(name, row)
                check_worth(house, worth)
                numbers.append(last + len(numbers) + 1)
                after[numbers[-1]] = (name, row, worth)
            case "withdraw":
                check_number(after, deed[1])
                del after[deed[1]]
            case "value":
                _, number, worth = deed
                check_number(after, number)
                check_worth(house, worth)
                name, row, _ = after[number]
                after[number] = (name, row, worth)
    return (after, numbers)


def check_row(name, row):
    """Raise NoRow if a fact cannot have this name and row."""
    if not is_word(name) or not is_row(row):
        raise NoRow("no word or no row")


def check_worth(house, worth):
    """Raise NoWorth if this is not a worth of the house."""
    if not is_worth(house, worth):
        raise NoWorth("no worth of the house of the store")


def check_number(facts, number):
    """Raise NoFact if no fact has the number."""
    if number not in facts:
        raise NoFact(number)
