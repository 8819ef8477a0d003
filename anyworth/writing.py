"""The written form of questions."""


def write_question(question):
    """Return the written form of a question."""
    width, joins = question
    if not joins:
        return f"none {width}"
    return "; ".join([write_join(join) for join in joins])


def write_join(join):
    """Return the written form of a join."""
    head, body = join
    return f"{write_terms(head)} if {write_body(body)}"


def write_body(body):
    """Return the written form of the body of a join."""
    if not body:
        return "true"
    return " and ".join([name + write_terms(terms) for name, terms in body])


def write_terms(terms):
    """Return the written form of terms in their parentheses."""
    return "(" + ", ".join([write_term(term) for term in terms]) + ")"


def write_term(term):
    """Return the written form of a term."""
    kind, held = term
    if kind == "value" and isinstance(held, str):
        return '"' + held + '"'
    return str(held)
