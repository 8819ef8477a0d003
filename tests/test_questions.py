"""Questions, which ones are valid, and the terms of joins: [17], [18], and replacing as in [24]."""

import copy
import unittest

from anyworth.errors import NoQuestion, WorthError
from anyworth.questions import check_question, put_terms, renamed, variables_of
from tests.samples import BIG
from tests.terms import NO_WORDS, val, var

X, Y, Z = var("x"), var("y"), var("z")
GOOD = ((X,), (("a", (X,)),))
LONG_WORDS = ["p", "q", "r", "s", "t", "u", "v", "w"]
EIGHT = tuple(var(word) for word in LONG_WORDS)
FULL_JOIN = (EIGHT, (("name", EIGHT),) * 8)

# Joins that are not valid for the width 1.
BAD_JOINS = [
    # The head has a term more or less.
    ((), (("a", (X,)),)),
    ((X, X), (("a", (X,)),)),
    ((val(1), val(1)), ()),
    ((), ()),
    # A variable of the head stands in no atom.
    ((X,), ()),
    ((X,), (("a", ()),)),
    ((X,), (("a", (Y,)),)),
    ((X,), (("x", (val("x"), Y)), ("b", (Z,)))),
    # 9 atoms, 9 terms.
    ((X,), (("a", (X,)),) * 9),
    ((val(1),), (("a", ()),) * 9),
    ((X,), (("a", (X,) * 9),)),
    ((X,), (("a", (X,)), ("b", (val(1),) * 9))),
]
for text in NO_WORDS:
    BAD_JOINS += [
        ((X,), ((text, (X,)),)),
        ((X,), (("a", (X,)), (text, ()), ("b", ()))),
        ((var(text),), (("a", (var(text),)),)),
        ((X,), (("a", (X, var(text))),)),
        ((val(text),), ()),
        ((X,), (("a", (X, val(text), Y)),)),
        ((X,), (("a", (X,)), ("b", (Y, val(text))))),
    ]


class CheckTest(unittest.TestCase):
    def check_fault(self, question, join):
        before = copy.deepcopy(question)
        with self.assertRaises(NoQuestion) as caught:
            check_question(question)
        self.assertEqual(caught.exception.join, join)
        self.assertIsInstance(caught.exception, WorthError)
        self.assertEqual(question, before)

    def check_valid(self, question):
        self.assertIsNone(check_question(question))

    def test_valid_questions(self):
        self.check_valid((1, (GOOD,)))
        self.check_valid((1, (GOOD, ((val(3),), ()), ((val("tea"),), (("b", (X,)),)))))
        self.check_valid((2, (((X, X), (("a", (Y, X)), ("a", (Y, X)))),)))
        self.check_valid((0, (((), ()),)))
        self.check_valid((0, (((), (("a", ()),)),)))
        self.check_valid((1, (((val(-BIG),), (("a", (val(BIG),)),)),)))
        self.check_valid((1, (((X,), (("a", (Y,)), ("b", (Z, X)))),)))
        self.check_valid((1, (((var("if"),), (("and", (var("if"), val("true"), var("none"))),)),)))

    def test_without_joins(self):
        for width in range(9):
            self.check_valid((width, ()))

    def test_the_greatest_numbers(self):
        self.check_valid((8, (FULL_JOIN,) * 12))
        self.check_valid((8, (((val(1),) * 8, ()),) * 12))

    def test_one_more_of_each(self):
        self.check_fault((9, ()), None)
        self.check_fault((9, ((EIGHT + (var("x"),), (("a", EIGHT), ("a", (X,)))),)), None)
        self.check_fault((8, (FULL_JOIN,) * 13), None)
        self.check_fault((1, (GOOD,) * 13), None)
        nine_atoms = (EIGHT, (("name", EIGHT),) * 9)
        nine_terms = (EIGHT, (("name", EIGHT),) * 7 + (("name", EIGHT + (val(1),)),))
        for bad in (nine_atoms, nine_terms):
            self.check_fault((8, (bad,)), 0)
            self.check_fault((8, (FULL_JOIN,) * 11 + (bad,)), 11)

    def test_the_width(self):
        for width in (-1, -2, -BIG, 9, 10, BIG):
            self.check_fault((width, ()), None)
            self.check_fault((width, (GOOD,)), None)
            self.check_fault((width, (BAD_JOINS[0], GOOD)), None)

    def test_the_width_and_the_number_are_checked_first(self):
        for bad in BAD_JOINS:
            self.check_fault((1, (bad,) + (GOOD,) * 12), None)
            self.check_fault((1, (GOOD,) * 12 + (bad,)), None)
            self.check_fault((9, (bad,)), None)
            self.check_fault((-1, (bad,)), None)

    def test_each_fault_of_a_join(self):
        for bad in BAD_JOINS:
            with self.subTest(join=bad):
                self.check_fault((1, (bad,)), 0)
                self.check_fault((1, (bad, GOOD, GOOD)), 0)
                self.check_fault((1, (GOOD, bad, GOOD)), 1)
                self.check_fault((1, (GOOD, GOOD, bad)), 2)
                self.check_fault((1, (GOOD,) * 11 + (bad,)), 11)

    def test_several_faults(self):
        for bad in BAD_JOINS:
            for other in BAD_JOINS[:12]:
                self.check_fault((1, (bad, other)), 0)
                self.check_fault((1, (GOOD, other, bad, GOOD, other)), 1)

    def test_heads_of_other_lengths(self):
        for width in range(9):
            for length in range(10):
                question = (width, (((val(0),) * length, ()),))
                if width == length:
                    self.check_valid(question)
                else:
                    self.check_fault(question, 0)


class VariablesTest(unittest.TestCase):
    def test_variables_of(self):
        self.assertEqual(variables_of(((), ())), ())
        self.assertEqual(variables_of(((val(1), val("z")), ())), ())
        self.assertEqual(variables_of(((X,), (("a", (X,)),))), ("x",))
        self.assertEqual(variables_of(((), (("a", (Z, X, Z)), ("b", (Y,)), ("y", (val("w"),))))), ("x", "y", "z"))
        self.assertEqual(variables_of(((var("b"), var("aa")), (("n", (var("b"), var("ab"), var("a"), var("aa"))),))),
                         ("a", "aa", "ab", "b"))

    def test_each_variable_once(self):
        self.assertEqual(variables_of(FULL_JOIN), tuple(LONG_WORDS))
        self.assertIs(type(variables_of(FULL_JOIN)), tuple)


class RenamedTest(unittest.TestCase):
    JOIN = ((X, val("x"), Y), (("x", (X, Y, val("y"))), ("b", (Z, X, val(3)))))

    def check(self, names, expected):
        before = dict(names)
        result = renamed(self.JOIN, names)
        self.assertEqual(result, expected)
        self.assertEqual(names, before)
        names.clear()
        self.assertEqual(result, expected)

    def test_new_names(self):
        a, b, c = var("a"), var("b"), var("c")
        self.check({"x": "a", "y": "b", "z": "c"}, ((a, val("x"), b), (("x", (a, b, val("y"))), ("b", (c, a, val(3))))))

    def test_the_same_names(self):
        self.check({"x": "x", "y": "y", "z": "z"}, self.JOIN)

    def test_exchanged_names(self):
        self.check({"x": "y", "y": "x", "z": "z"}, ((Y, val("x"), X), (("x", (Y, X, val("y"))), ("b", (Z, Y, val(3))))))
        self.check({"x": "y", "y": "z", "z": "x"}, ((Y, val("x"), Z), (("x", (Y, Z, val("y"))), ("b", (X, Y, val(3))))))
        self.check({"z": "y", "y": "x", "x": "w"},
                   ((var("w"), val("x"), X), (("x", (var("w"), X, val("y"))), ("b", (Y, var("w"), val(3))))))

    def test_without_variables(self):
        self.assertEqual(renamed(((val(1),), (("a", ()),)), {}), ((val(1),), (("a", ()),)))


class PutTermsTest(unittest.TestCase):
    JOIN = RenamedTest.JOIN

    def check(self, terms, expected):
        before = dict(terms)
        result = put_terms(self.JOIN, terms)
        self.assertEqual(result, expected)
        self.assertEqual(terms, before)
        terms.clear()
        self.assertEqual(result, expected)

    def test_some_variables(self):
        self.check({}, self.JOIN)
        self.check({"z": val("tea")}, ((X, val("x"), Y), (("x", (X, Y, val("y"))), ("b", (val("tea"), X, val(3))))))
        self.check({"x": val(7)}, ((val(7), val("x"), Y), (("x", (val(7), Y, val("y"))), ("b", (Z, val(7), val(3))))))
        self.check({"y": var("new")},
                   ((X, val("x"), var("new")), (("x", (X, var("new"), val("y"))), ("b", (Z, X, val(3))))))

    def test_all_at_once(self):
        expected = ((Y, val("x"), val(5)), (("x", (Y, val(5), val("y"))), ("b", (Z, Y, val(3)))))
        self.check({"x": Y, "y": val(5)}, expected)
        self.check({"y": val(5), "x": Y}, expected)
        self.check({"x": Y, "y": X}, ((Y, val("x"), X), (("x", (Y, X, val("y"))), ("b", (Z, Y, val(3))))))
        self.check({"x": Z, "y": Z}, ((Z, val("x"), Z), (("x", (Z, Z, val("y"))), ("b", (Z, Z, val(3))))))
        self.check({"x": X}, self.JOIN)

    def test_values_and_names_stay(self):
        join = ((val("x"),), (("x", (val("x"), val(1))),))
        self.assertEqual(put_terms(join, {"x": val(2)}), join)

    def test_the_result_is_a_pair_of_tuples(self):
        head, body = put_terms(self.JOIN, {"x": Y})
        self.assertIs(type(head), tuple)
        self.assertIs(type(body), tuple)
        for name, terms in body:
            self.assertIs(type(name), str)
            self.assertIs(type(terms), tuple)


if __name__ == "__main__":
    unittest.main()
