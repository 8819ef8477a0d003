"""Reading the text of a question."""

from anyworth.errors import BadText
from anyworth.questions import check_question
from anyworth.tokens import tokens_of


class Reader:
    """The tokens of a text, with the place of the next one that is to be read."""

    def __init__(self, text):
        self.tokens = tokens_of(text)
        self.place = 0

    def sees(self, kind):
        """Tell whether the next token is of this kind."""
        return self.tokens[self.place][0] == kind

    def sees_behind(self, kind):
        """Tell whether the token behind the next one is of this kind."""
        return self.tokens[self.place + 1][0] == kind

    def held(self):
        """Return what the next token holds."""
        return self.tokens[self.place][1]

    def sees_word(self, word):
        """Tell whether the next token is this word."""
        return self.sees("word") and self.held() == word

    def refuse(self):
        """Raise the error that the next token does not fit."""
        raise BadText(self.tokens[self.place][2])

    def take(self, kind):
        """Go on behind a token of this kind and return what it holds."""
        if not self.sees(kind):
            self.refuse()
        held = self.held()
        self.place += 1
        return held

    def take_word(self, word):
        """Go on behind this word."""
        if not self.sees_word(word):
            self.refuse()
        self.place += 1


def read_question(text):
    """Return the question that the text tells."""
    reader = Reader(text)
    question = read_none(reader) if reader.sees_word("none") else read_joins(reader)
    reader.take("end")
    check_question(question)
    return question


def read_none(reader):
    """Return the question without joins that is read."""
    reader.take_word("none")
    if reader.sees("number") and reader.held() < 0:
        reader.refuse()
    return (reader.take("number"), ())


def read_joins(reader):
    """Return the question with one or more joins that is read."""
    first = read_terms(reader)
    joins = [(first, read_rest(reader))]
    while reader.sees(";"):
        reader.take(";")
        head = read_head(reader, len(first))
        joins.append((head, read_rest(reader)))
    return (len(first), tuple(joins))


def read_rest(reader):
    """Return the body of a join that is read behind its head."""
    reader.take_word("if")
    # Before a parenthesis, the word is the name of an atom.
    if reader.sees_word("true") and not reader.sees_behind("("):
        reader.take_word("true")
        return ()
    atoms = [read_atom(reader)]
    while reader.sees_word("and"):
        reader.take_word("and")
        atoms.append(read_atom(reader))
    return tuple(atoms)


def read_atom(reader):
    """Return the atom that is read."""
    name = reader.take("word")
    return (name, read_terms(reader))


def read_terms(reader):
    """Return the terms in parentheses that are read, however many there are."""
    reader.take("(")
    terms = []
    if not reader.sees(")"):
        terms.append(read_term(reader))
    while not reader.sees(")"):
        reader.take(",")
        terms.append(read_term(reader))
    reader.take(")")
    return tuple(terms)


def read_head(reader, width):
    """Return the terms in parentheses that are read, which must be as many as the width."""
    reader.take("(")
    terms = []
    for place in range(width):
        if place > 0:
            reader.take(",")
        terms.append(read_term(reader))
    reader.take(")")
    return tuple(terms)


def read_term(reader):
    """Return the term that is read."""
    if reader.sees("word"):
        return ("var", reader.take("word"))
    if reader.sees("text"):
        return ("value", reader.take("text"))
    return ("value", reader.take("number"))
