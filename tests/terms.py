"""Terms for the tests, and strings that are no words."""

NO_WORDS = ["", "A", "aB", "Tea", "teA", "0", "a0", "0a", " ", " a", "a ", "a b", "\n", "a\n", "\na", "a\tb",
            "_", "a_b", "-", "a-b", '"a"', "`", "{", "a`", "a{", "@", "[", "Z", "1", "-1", "a,b", "\x00", "\x7f"]


def var(name):
    return ("var", name)


def val(value):
    return ("value", value)
