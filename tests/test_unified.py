"""Maps that unify two tuples of terms: [41]."""

import itertools
import random
import unittest

from anyworth.views import unified
from tests.joins import map_of
from tests.terms import val, var

X, Y, Z, W = var("x"), var("y"), var("z"), var("w")
VALUES = (1, 2, "a", "b", 7)


def put(terms, mapping):
    return tuple(mapping.get(held, (kind, held)) if kind == "var" else (kind, held) for kind, held in terms)


def variables(*tuples):
    return sorted({held for terms in tuples for kind, held in terms if kind == "var"})


def equal_valuations(terms, others):
    """Return the valuations with few values that turn both tuples into the same row."""
    names = variables(terms, others)
    for values in itertools.product(VALUES, repeat=len(names)):
        valuation = dict(zip(names, values))
        if row(terms, valuation) == row(others, valuation):
            yield valuation


def row(terms, valuation):
    return tuple(valuation[held] if kind == "var" else held for kind, held in terms)


class UnifiedTest(unittest.TestCase):
    def check(self, terms, others, possible=True):
        """Check the map by the words of the document, and return it."""
        mapping = unified(terms, others)
        if not possible:
            self.assertIsNone(mapping)
            self.assertIsNone(unified(others, terms))
            return None
        self.assertIs(type(mapping), tuple)
        names = [x for x, _ in mapping]
        self.assertEqual(names, sorted(set(names)))
        self.assertLessEqual(set(names), set(variables(terms, others)))
        told = dict(mapping)
        self.assertEqual(put(terms, told), put(others, told))
        self.assertFalse(set(names) & set(variables(told.values())))
        for valuation in equal_valuations(terms, others):
            for x, term in mapping:
                self.assertEqual(valuation[x], row([term], valuation)[0])
        return mapping

    def test_no_terms(self):
        self.assertEqual(self.check((), ()), ())

    def test_values(self):
        self.assertEqual(self.check((val(1), val("a")), (val(1), val("a"))), ())
        self.check((val(1),), (val(2),), False)
        self.check((val("a"),), (val("b"),), False)
        self.check((val(1), val(2)), (val(1), val(3)), False)
        self.check((X, val(2)), (val(1), val(3)), False)
        self.check((val(2), X), (val(3), val(1)), False)

    def test_words_and_variables_of_the_same_letters(self):
        self.assertEqual(self.check((X,), (val("x"),)), map_of(x=["x"]))
        self.check((X, X), (val("x"), val("y")), False)
        self.assertEqual(self.check((val("x"), Y), (Y, val("x"))), map_of(y=["x"]))

    def test_a_variable_and_a_value(self):
        self.assertEqual(self.check((X,), (val(3),)), map_of(x=[3]))
        self.assertEqual(self.check((val(3),), (X,)), map_of(x=[3]))
        self.assertEqual(self.check((X, val(4)), (val(3), Y)), map_of(x=[3], y=[4]))
        self.assertEqual(self.check((var("b"), var("a")), (val(1), val(2))), map_of(a=[2], b=[1]))

    def test_two_variables(self):
        self.assertIn(self.check((X,), (Y,)), [map_of(x="y"), map_of(y="x")])
        self.assertIn(self.check((X, Y), (Y, X)), [map_of(x="y"), map_of(y="x")])
        self.assertEqual(len(self.check((X, Y), (Z, W))), 2)

    def test_a_variable_with_itself(self):
        self.assertEqual(self.check((X,), (X,)), ())
        self.assertEqual(self.check((X, Y, val(1)), (X, Y, val(1))), ())
        self.assertEqual(self.check((X, X), (X, val(1))), map_of(x=[1]))
        self.assertEqual(len(self.check((X, X), (X, Y))), 1)

    def test_chains_of_variables(self):
        self.assertEqual(len(self.check((X, Y, Z), (Y, Z, W))), 3)
        self.assertEqual(self.check((X, Y, Z), (Y, Z, val(5))), map_of(x=[5], y=[5], z=[5]))
        self.assertEqual(self.check((val(5), X, Y), (X, Y, Z)), map_of(x=[5], y=[5], z=[5]))
        self.assertEqual(self.check((X, Z, Y), (Y, val(5), Z)), map_of(x=[5], y=[5], z=[5]))
        self.assertEqual(len(self.check((X, Y, Z, X), (Y, Z, W, W))), 3)
        self.assertEqual(len(self.check((X, Y, Z), (Y, Z, X))), 2)

    def test_a_variable_that_would_have_to_be_two_values(self):
        self.check((X, X), (val(1), val(2)), False)
        self.check((X, Y, X), (val(1), val(2), Y), False)
        self.check((X, Y, Z, val(1)), (Y, Z, val(2), X), False)
        self.check((val(1), X, val("a")), (X, Y, Y), False)
        self.assertEqual(self.check((X, X), (val(1), val(1))), map_of(x=[1]))

    def test_all_short_tuples(self):
        terms = [X, Y, val(1), val("a")]
        found = {True: 0, False: 0}
        for length in range(4):
            for told in itertools.product(terms, repeat=length):
                for others in itertools.product(terms, repeat=length):
                    possible = any(True for _ in equal_valuations(told, others))
                    self.check(told, others, possible)
                    found[possible] += 1
        self.assertGreater(min(found.values()), 1000)

    def test_some_longer_tuples(self):
        chance = random.Random(60)
        for _ in range(300):
            length = chance.randrange(9)
            terms, others = ([chance.choice([X, Y, Z, W, X, Y, Z, W, val(1),
                                             val(2)]) for _ in range(length)] for _ in "ab")
            possible = any(True for _ in equal_valuations(terms, others))
            self.check(tuple(terms), tuple(others), possible)


if __name__ == "__main__":
    unittest.main()
