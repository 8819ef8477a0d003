"""Least questions: [30]."""

import copy
import itertools
import random
import unittest

from anyworth.comparing import compare
from anyworth.leaning import least_question
from anyworth.questions import check_question
from anyworth.reading import read_question
from anyworth.writing import write_question
from tests.joins import is_same, put, put_all, some_joins, turned_about, variables

KINDS = ("once", "prices", "yes")


def size(question):
    return (len(question[1]), sum(len(body) for _, body in question[1]))


def is_valid_join(join):
    return {x for kind, x in join[0] if kind == "var"} <= set(variables(((), join[1])))


def smaller(question):
    """Return the valid questions that have one join or one atom less."""
    width, joins = question
    found = []
    for at, (head, body) in enumerate(joins):
        found.append((width, joins[:at] + joins[at + 1:]))
        for place in range(len(body)):
            less = (head, body[:place] + body[place + 1:])
            if is_valid_join(less):
                found.append((width, joins[:at] + (less,) + joins[at + 1:]))
    return found


def is_made_from(join, other):
    """Tell whether the join is the other one with atoms left out and terms put for variables."""
    terms = sorted({term for told in [join[0]] + [told for _, told in join[1]] for term in told}, key=str)
    names = variables(other)
    for chosen in itertools.product(terms, repeat=len(names)):
        mapping = dict(zip(names, chosen))
        body = put_all(other[1], mapping)
        if put(other[0], mapping) == join[0] and all(join[1].count(atom) <= body.count(atom) for atom in join[1]):
            return True
    return not names and join[0] == other[0] and all(join[1].count(atom) <= other[1].count(atom) for atom in join[1])


class LeastTest(unittest.TestCase):
    def check(self, kind, question, expected=None):
        """Check a least question, and that it has the expected size."""
        before = copy.deepcopy(question)
        least = least_question(kind, question)
        self.assertEqual(question, before)
        self.assertIs(type(least), tuple)
        self.assertIs(type(least[1]), tuple)
        self.assertIsNone(check_question(least))
        self.assertEqual(least[0], question[0])
        self.assertEqual(compare(kind, question, least)[0], "same")
        if expected is not None:
            self.assertEqual(size(least), expected)
        for less in smaller(least):
            self.assertEqual(compare(kind, question, less)[0], "apart")
        self.assertEqual(size(least_question(kind, least)), size(least))
        self.assertEqual(compare("all", least_question(kind, least), least)[0], "same")
        return least

    def check_sizes(self, text, once, prices, yes):
        question = read_question(text)
        for kind, expected in zip(KINDS, (once, prices, yes)):
            with self.subTest(kind=kind, text=text):
                least = self.check(kind, question, expected)
                for join in least[1]:
                    self.assertTrue(any(is_made_from(join, other) for other in question[1]))

    def test_atoms_that_add_nothing(self):
        self.check_sizes("(x) if e(x, y) and e(x, z)", (1, 2), (1, 2), (1, 1))
        self.check_sizes("(x) if a(x) and a(x)", (1, 2), (1, 2), (1, 1))
        self.check_sizes("() if a(x) and a(y) and a(z)", (1, 3), (1, 3), (1, 1))
        self.check_sizes("() if e(x, y) and e(y, z) and e(u, u)", (1, 3), (1, 3), (1, 1))
        self.check_sizes("(x) if e(x, y) and e(y, z) and e(x, u) and e(u, 1)", (1, 4), (1, 4), (1, 2))
        self.check_sizes("(x, y) if a(x) and a(y)", (1, 2), (1, 2), (1, 2))
        self.check_sizes("() if e(x, y) and e(y, x) and e(u, v) and e(v, w) and e(w, u)", (1, 5), (1, 5), (1, 5))
        self.check_sizes("() if e(x, y) and e(y, x) and e(u, v) and e(v, w) and e(w, s) and e(s, u)",
                         (1, 6), (1, 6), (1, 2))
        self.check_sizes("() if a(1) and a(x) and a(2) and a(y)", (1, 4), (1, 4), (1, 2))

    def test_joins_that_add_nothing(self):
        self.check_sizes("(x) if a(x); (x) if a(x)", (1, 1), (1, 1), (1, 1))
        self.check_sizes("(x) if a(x); (y) if a(y); (z) if a(z)", (1, 1), (1, 1), (1, 1))
        self.check_sizes("(x) if a(x); (1) if a(1); (x) if b(x)", (2, 2), (2, 2), (2, 2))
        self.check_sizes("() if e(x, x); () if e(x, y); () if e(1, y)", (1, 1), (1, 1), (1, 1))
        self.check_sizes("(x) if a(x) and b(x); (x) if a(x)", (2, 3), (1, 1), (1, 1))
        self.check_sizes("(x) if a(x) and a(x); (x) if a(x)", (2, 3), (1, 1), (1, 1))
        self.check_sizes("() if a(x) and a(x); () if a(x) and a(y)", (1, 2), (1, 2), (1, 1))
        self.check_sizes("() if a(x) and a(y); () if a(x) and b(y); () if a(u)", (3, 5), (1, 1), (1, 1))
        self.check_sizes("() if a(); () if b(); () if a() and b()", (3, 4), (2, 2), (2, 2))
        self.check_sizes("() if e(x, y) and e(y, z); () if e(x, y) and e(y, z) and e(z, w)", (2, 5), (1, 2), (1, 2))
        self.check_sizes("() if e(x, y) and e(y, x); () if e(x, y) and e(y, z)", (1, 2), (1, 2), (1, 2))
        self.check_sizes("() if e(x, y) and e(x, z); () if e(x, y) and e(z, y)", (2, 4), (2, 4), (1, 1))

    def test_without_joins_and_with_empty_bodies(self):
        for width in [0, 1, 8]:
            for kind in KINDS:
                self.assertEqual(least_question(kind, (width, ())), (width, ()))
        self.check_sizes("() if true", (1, 0), (1, 0), (1, 0))
        self.check_sizes("(3) if true; (4) if true; (3) if true", (2, 0), (2, 0), (2, 0))
        self.check_sizes("() if true; () if a(x) and a(y)", (2, 2), (1, 0), (1, 0))
        self.check_sizes("(1) if true; (x) if a(x) and a(y)", (2, 2), (2, 2), (2, 1))
        self.check_sizes("(1) if true; (1) if a(x); (x) if a(x)", (3, 2), (2, 1), (2, 1))

    def test_the_result(self):
        question = read_question("(x) if e(x, y) and e(x, z) and f(z)")
        self.assertEqual(write_question(least_question("yes", question)), "(x) if e(x, z) and f(z)")
        self.assertEqual(least_question("once", question), question)
        self.assertEqual(least_question("prices", question), question)
        question = read_question("(x) if a(x); (x) if b(x)")
        for kind in KINDS:
            self.assertEqual(sorted(least_question(kind, question)[1]), sorted(question[1]))

    def test_the_order_of_joins_and_atoms_does_not_matter(self):
        joins = ["() if e(x, y) and e(y, z)", "() if e(u, u)", "() if e(x, y)", "() if e(x, y) and e(x, z)"]
        for kind, expected in zip(KINDS, [(3, 5), (1, 1), (1, 1)]):
            for chosen in itertools.permutations(joins):
                self.check(kind, read_question("; ".join(chosen)), expected)
        atoms = ["e(x, y)", "e(y, z)", "e(z, w)", "e(a, a)", "e(x, x)"]
        for chosen in itertools.permutations(atoms):
            self.check("yes", read_question("(x) if " + " and ".join(chosen)), (1, 1))
            self.check("yes", read_question("(z) if " + " and ".join(chosen)), (1, 4))

    def test_some_questions(self):
        chance = random.Random(34)
        sizes = set()
        for _ in range(250):
            question = some_joins(chance, chance.randrange(2), chance.randrange(5))
            other = turned_about(chance, question)
            more = (question[0], question[1] + turned_about(chance, question)[1][:2])
            for kind in KINDS:
                least = self.check(kind, question)
                self.assertTrue(is_same(kind, question, least))
                self.assertEqual(size(self.check(kind, other)), size(least))
                self.assertEqual(size(self.check(kind, more)), size(least))
                for join in least[1]:
                    self.assertTrue(any(is_made_from(join, told) for told in question[1]))
                sizes.add((kind, size(least) == size(question)))
        self.assertEqual(len(sizes), 6)

    def test_the_greatest_numbers(self):
        path = " and ".join(f"e({x}, {y})" for x, y in zip("abcdefgh", "bcdefghi"))
        star = " and ".join(f"e(x, {y})" for y in "abcdefgh")
        cycle = " and ".join(f"e({x}, {y})" for x, y in zip("abcdefgh", "bcdefgha"))
        question = read_question("; ".join(["() if " + body for body in [path, star, cycle] * 4]))
        for kind, expected in zip(KINDS, [(2, 16), (2, 16), (1, 1)]):
            self.assertEqual(size(least_question(kind, question)), expected)
        question = read_question("; ".join(f"({x}) if {cycle}" for x in "abcdefghabcd"))
        for kind in KINDS:
            self.assertEqual(size(least_question(kind, question)), (1, 8))


if __name__ == "__main__":
    unittest.main()
