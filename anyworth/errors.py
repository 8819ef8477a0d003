"""The errors that the program raises."""


class WorthError(ValueError):
    """The base class of all errors of the program."""


class NoHouse(WorthError):
    """What was passed as a house is not a valid one."""


class NoWorth(WorthError):
    """What was passed as a worth is not a worth of the house."""


class NoRow(WorthError):
    """The name or the row of a fact is not a word or a row."""


class OtherWidths(WorthError):
    """Two questions have different widths."""


class NoQuestion(WorthError):
    """A question is not valid; `join` is the index of its first bad join, or None."""

    def __init__(self, join):
        self.join = join


class BadText(WorthError):
    """A text is not the text of a question; `at` is the index where it goes wrong."""

    def __init__(self, at):
        self.at = at


class NoFact(WorthError):
    """No fact has the number `number`."""

    def __init__(self, number):
        self.number = number


class NoKept(WorthError):
    """No kept question has the number `number`."""

    def __init__(self, number):
        self.number = number
