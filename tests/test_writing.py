"""The written form of questions: [21]."""

import unittest

from anyworth.writing import write_question
from tests.terms import val, var

X, Y, Z = var("x"), var("y"), var("z")
SIXTY = int("1234567890" * 6)

# The written forms of questions, also of some that are not valid.
WRITTEN = [
    ((0, ()), "none 0"),
    ((1, ()), "none 1"),
    ((8, ()), "none 8"),
    ((9, ()), "none 9"),
    ((SIXTY, ()), "none " + "1234567890" * 6),
    ((0, (((), ()),)), "() if true"),
    ((0, (((), ()), ((), ()))), "() if true; () if true"),
    ((1, (((val(3),), ()),)), "(3) if true"),
    ((1, (((val(0),), ()),)), "(0) if true"),
    ((1, (((val("tea"),), ()),)), '("tea") if true'),
    ((2, (((val(-7), val("x")), ()),)), '(-7, "x") if true'),
    ((1, (((val(SIXTY),), ()),)), "(" + "1234567890" * 6 + ") if true"),
    ((1, (((val(-SIXTY),), ()),)), "(-" + "1234567890" * 6 + ") if true"),
    ((0, (((), (("a", ()),)),)), "() if a()"),
    ((1, (((X,), (("a", (X,)),)),)), "(x) if a(x)"),
    ((1, (((X,), (("likes", (X, val("tea"))),)),)), '(x) if likes(x, "tea")'),
    ((2, (((X, Z), (("road", (X, Y)), ("road", (Y, Z)))),)), "(x, z) if road(x, y) and road(y, z)"),
    ((0, (((), (("a", ()), ("a", ()), ("b", (val(-1), val(10), X, X)))),)), "() if a() and a() and b(-1, 10, x, x)"),
    (
        (1, (((X,), (("a", (X,)),)), ((val(3),), ()), ((Y,), (("b", (val("x"), Y)), ("c", ()))))),
        '(x) if a(x); (3) if true; (y) if b("x", y) and c()',
    ),
    # The words of the form itself as names, variables and values.
    ((1, (((var("if"),), (("if", (var("if"),)),)),)), "(if) if if(if)"),
    ((1, (((var("and"),), (("and", (var("and"),)), ("and", ()))),)), "(and) if and(and) and and()"),
    ((0, (((), (("true", ()),)),)), "() if true()"),
    ((0, (((), (("true", (var("true"), val("true"))), ("true", ()))),)), '() if true(true, "true") and true()'),
    ((0, (((), (("none", (var("none"), val("none"))),)), ((), ()))), '() if none(none, "none"); () if true'),
    ((2, (((val("if"), val("and")), ()),)), '("if", "and") if true'),
    # Not valid: a variable that stands in no atom, too many atoms, terms, joins, too great a width.
    ((1, (((X,), ()),)), "(x) if true"),
    ((1, (((X,), (("a", (Y,)),)),)), "(x) if a(y)"),
    ((0, (((), (("a", ()),) * 9),)), "() if a()" + " and a()" * 8),
    ((0, (((), (("a", (X,) * 9),)),)), "() if a(x" + ", x" * 8 + ")"),
    ((9, (((val(1),) * 9, ()),)), "(1" + ", 1" * 8 + ") if true"),
    ((0, (((), ()),) * 13), "() if true" + "; () if true" * 12),
    ((8, (((X,) * 8, (("a", (X,) * 8),) * 8),) * 12),
     "; ".join(["(x" + ", x" * 7 + ") if " + " and ".join(["a(x" + ", x" * 7 + ")"] * 8)] * 12)),
]


class WritingTest(unittest.TestCase):
    def test_written_forms(self):
        for question, text in WRITTEN:
            with self.subTest(text=text):
                self.assertEqual(write_question(question), text)
                self.assertIs(type(write_question(question)), str)


if __name__ == "__main__":
    unittest.main()
