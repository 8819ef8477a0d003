"""The tokens that the text of a question is made of.

A token is a triple of its kind, what it holds and the index of its first character.
The kinds are "word", "text" (a word in quotes), "number", and each sign itself. What
stands last is no token: its kind is "end", or "wrong" where a character begins none.
"""

LETTERS = "abcdefghijklmnopqrstuvwxyz"
DIGITS = "0123456789"
SIGNS = "(),;"


def tokens_of(text):
    """Return the list of the tokens of a text, with "end" or "wrong" behind them."""
    tokens = []
    at = end_of_run(text, 0, " ")
    while at < len(text):
        kind, held, end = token_at(text, at)
        tokens.append((kind, held, at))
        if kind == "wrong":
            return tokens
        at = end_of_run(text, end, " ")
    tokens.append(("end", "", at))
    return tokens


def end_of_run(text, at, characters):
    """Return the index behind the characters of this sort that stand there."""
    while at < len(text) and text[at] in characters:
        at += 1
    return at


def token_at(text, at):
    """Return the kind of the token that begins there, what it holds and where it ends."""
    first = text[at]
    if first in SIGNS:
        return (first, first, at + 1)
    if first in LETTERS:
        end = end_of_run(text, at, LETTERS)
        return ("word", text[at:end], end)
    if first == '"':
        return quoted_at(text, at)
    return number_at(text, at)


def quoted_at(text, at):
    """Return the token of a word in quotes, if there is one."""
    end = end_of_run(text, at + 1, LETTERS)
    if end == at + 1 or text[end:end + 1] != '"':
        return ("wrong", "", at)
    return ("text", text[at + 1:end], end + 1)


def number_at(text, at):
    """Return the token of an integer, if there is one."""
    start = at + 1 if text[at] == "-" else at
    end = end_of_run(text, start, DIGITS)
    written = text[at:end]
    if start == end or (text[start] == "0" and written != "0"):
        return ("wrong", "", at)
    return ("number", int(written), end)
