"""Answers by sheets: [33], and [19] and [20] for them."""

import copy
import itertools
import random
import unittest

from anyworth.engine import answers_by_more, engine_answers, join_sheet
from anyworth.houses import one, plus, zero
from anyworth.plainly import plain_answers
from anyworth.questions import variables_of
from anyworth.reading import read_question
from anyworth.values import sorted_rows
from tests.joins import join_of, some_joins
from tests.polynomial import tag
from tests.samples import WORTHS
from tests.terms import var
from tests.test_plainly import some_facts, some_question

COUNTS = ("counts",)
SMALL = {house: [worth for worth in worths if len(str(worth)) < 200] for house, worths in WORTHS.items()}


def free_variables(join):
    return [x for x in variables_of(join) if var(x) not in join[0]]


class JoinSheetTest(unittest.TestCase):
    def check(self, house, facts, text, columns, *entries):
        """Check the sheet for every order of the variables."""
        join = join_of(text)
        for order in itertools.permutations(free_variables(join)):
            told = list(order)
            before = copy.deepcopy((facts, told))
            sheet = join_sheet(house, facts, join, told)
            self.assertEqual(sheet, (columns, entries))
            self.assertIs(type(sheet[0]), tuple)
            self.assertIs(type(sheet[1]), tuple)
            self.assertEqual((facts, told), before)

    ROADS = [("road", ("a", "b"), 4), ("road", ("b", "c"), 3), ("road", ("a", "c"), 9), ("road", ("c", "c"), 2)]

    def test_two_atoms(self):
        self.check(COUNTS, self.ROADS, "(x, z) if road(x, y) and road(y, z)", ("x", "z"), (("a", "c"), 30),
                   (("b", "c"), 6), (("c", "c"), 4))
        self.check(("least",), self.ROADS, "(x, z) if road(x, y) and road(y, z)", ("x", "z"), (("a", "c"), 7),
                   (("b", "c"), 5), (("c", "c"), 4))

    def test_columns_are_the_variables_of_the_head(self):
        self.check(COUNTS, self.ROADS, "(z, x) if road(x, y) and road(y, z)", ("x", "z"), (("a", "c"), 30),
                   (("b", "c"), 6), (("c", "c"), 4))
        self.check(COUNTS, self.ROADS, '(x, 3, x, "x") if road(x, y)', ("x",), (("a",), 13), (("b",), 3), (("c",), 2))
        self.check(COUNTS, self.ROADS, '(3, "a") if road(x, y)', (), ((), 18))
        self.check(COUNTS, self.ROADS, "(y, y, x) if road(x, y) and road(x, y)", ("x", "y"), (("a", "b"), 16),
                   (("a", "c"), 81), (("b", "c"), 9), (("c", "c"), 4))

    def test_empty_bodies(self):
        self.check(COUNTS, self.ROADS, "() if true", (), ((), 1))
        self.check(("least",), [], "(3, 3) if true", (), ((), 0))
        self.check(("modulo", 1), [], "() if true", ())
        for house in WORTHS:
            entries = [((), one(house))] if one(house) != zero(house) else []
            self.check(house, [], "(1) if true", (), *entries)

    def test_atoms_without_variables(self):
        facts = [("a", (1,), 2), ("b", (), 3), ("c", (5,), 7)]
        self.check(COUNTS, facts, "(x) if a(1) and b() and c(x) and b()", ("x",), ((5,), 126))
        self.check(COUNTS, facts, "() if a(1) and b() and a(1)", (), ((), 12))
        self.check(COUNTS, facts, "(x) if a(2) and b() and c(x)", ("x",))
        self.check(COUNTS, facts, "() if b(1) and c(x)", ())

    def test_four_variables(self):
        facts = [("e", (k, (3 * k + j) % 5), 1 + j) for k in range(5) for j in range(2)]
        text = "(u) if e(u, v) and e(v, w) and e(w, x) and e(x, u) and e(w, y)"
        rows = plain_answers(COUNTS, facts, read_question(text))
        self.assertGreater(len(rows), 2)
        self.check(COUNTS, facts, text, ("u",), *rows)
        rows = plain_answers(COUNTS, facts, read_question("(u, w, y)" + text[3:]))
        self.check(COUNTS, facts, "(y, u, w)" + text[3:], ("u", "w", "y"), *rows)

    def test_houses_of_every_form_in_every_order(self):
        chance = random.Random(50)
        found = 0
        for house, worths in SMALL.items():
            for _ in range(15):
                facts, question = some_facts(chance, worths), some_question(chance, chance.randrange(3))
                for head, body in question[1]:
                    columns = tuple(sorted({x for kind, x in head if kind == "var"}))
                    plain = plain_answers(house, facts, (len(columns), ((tuple(map(var, columns)), body),)))
                    for order in itertools.permutations(free_variables((head, body))):
                        sheet = join_sheet(house, facts, (head, body), list(order))
                        self.assertEqual(sheet, (columns, plain))
                    found += len(plain)
        self.assertGreater(found, 100)


class AnswersTest(unittest.TestCase):
    def check(self, house, facts, text):
        question = read_question(text) if isinstance(text, str) else text
        before = copy.deepcopy(facts)
        answers = engine_answers(house, facts, question)
        self.assertEqual(answers, plain_answers(house, facts, question))
        self.assertIs(type(answers), tuple)
        self.assertEqual(facts, before)
        return answers

    TEXTS = ["(x) if a(x)", "(x, x) if e(x, y)", "(y, x) if e(x, y)", "(x, 1, y) if e(x, y) and e(y, x)",
             "() if e(x, y)",
             '("a", x) if a(x); (x, 2) if a(x)', "(1) if true", "(1) if true; (x) if a(x); (1) if true", "none 3",
             "(x) if e(x, y) and e(x, y)", "(x) if e(x, y) and e(x, z)", "(x) if a(x); (x) if a(x)", '(x) if e(x, "a")',
             "() if e(1, 2)", "(x) if e(x, x) and a(x)", "(z) if e(x, y) and e(y, z) and a(x)",
             "(x) if a(x) and none(y)",
             "() if a(x) and a(x, x)", "(x, z) if a(x) and a(z)", "(x) if a(x) and a(y) and a(z)", "(3) if a(x)"]

    def test_questions_in_houses_of_every_form(self):
        chance = random.Random(51)
        for (house, worths), text in itertools.product(SMALL.items(), self.TEXTS):
            facts = [("e", (x, y), chance.choice(worths)) for x in [1, 2, "a"] for y in [1, 2,
                                                                                         "a"] if chance.randrange(2)]
            facts += [("a", (x,), chance.choice(worths)) for x in [1, 2, "a", 2] if chance.randrange(2)]
            chance.shuffle(facts)
            self.check(house, facts, text)

    def test_some_questions(self):
        chance = random.Random(52)
        found = 0
        for house, worths in SMALL.items():
            for _ in range(25):
                facts = some_facts(chance, worths) + some_facts(chance, worths)
                found += len(self.check(house, facts, some_question(chance, chance.randrange(3))))
                found += len(self.check(house, facts, some_joins(chance, 1, 2, names="q", most=4)))
        self.assertGreater(found, 500)

    def test_sums_that_become_zero(self):
        facts = [("a", (1,), 2), ("a", (2,), 1), ("b", (1,), 3), ("b", (2,), 5)]
        self.assertEqual(self.check(("modulo", 6), facts, "(x) if a(x) and b(x)"), (((2,), 5),))
        self.assertEqual(self.check(("modulo", 6), facts, "() if b(x); () if b(x); () if b(x)"), ())
        self.assertEqual(self.check(("modulo", 6), facts, "(x) if b(x); (y) if b(y)"), (((2,), 4),))

    def test_formulas(self):
        facts = [("a", (1,), tag(1)), ("a", (1,), tag(2)), ("a", (2,), tag(3))]
        answers = self.check(("formulas",), facts, "(x) if a(x) and a(x)")
        self.assertEqual(answers[1], ((2,), ((((3, 2),), 1),)))
        self.assertEqual(answers[0], ((1,), ((((1, 1), (2, 1)), 2), (((1, 2),), 1), (((2, 2),), 1))))

    def test_many_valuations(self):
        facts = [("e", (0, k), 2) for k in range(200)]
        star = "() if " + " and ".join(f"e(x, {y})" for y in "abcdefgh")
        self.assertEqual(engine_answers(COUNTS, facts, read_question(star)), (((), 400 ** 8),))
        lone = "() if " + " and ".join(f"e({x}, {y})" for x, y in zip("abcdefgh", "ijklmnop"))
        self.assertEqual(engine_answers(COUNTS, facts, read_question("; ".join([lone] * 12))), (((), 12 * 400 ** 8),))
        facts = [("e", (k, k + 1), 2) for k in range(200)]
        path = "(a) if " + " and ".join(f"e({x}, {y})" for x, y in zip("abcdefgh", "bcdefghi"))
        self.assertEqual(engine_answers(COUNTS, facts, read_question(path)), tuple(((k,), 256) for k in range(193)))

    def test_long_sums_that_count_for_nothing(self):
        # By themselves, six atoms over 100 facts would give very many monomials.
        facts = [("e", (0, k), tag(k + 1)) for k in range(100)]
        facts += [("g", (0, k), tag(k + 1)) for k in range(100, 150)] + [("h", (k,), tag(k + 1)) for k in range(150,
                                                                                                                200)]
        star = " and ".join(f"e(x, {y})" for y in "abcdef")
        for more in ["g(x, z) and h(z)", "h(x)", "none()", 'g("no", z)', "g(y, z) and h(z)"]:
            self.assertEqual(engine_answers(("formulas",), facts, read_question(f"() if {star} and {more}")), ())


class MoreTest(unittest.TestCase):
    def test_what_further_facts_add(self):
        chance = random.Random(53)
        for house, worths in SMALL.items():
            for _ in range(15):
                facts, more = some_facts(chance, worths), some_facts(chance, worths)
                question = some_question(chance, chance.randrange(2))
                before = dict(plain_answers(house, facts, question))
                added = dict(answers_by_more(house, facts, more, question))
                after = dict(plain_answers(house, facts + more, question))
                for row in sorted_rows(list(before) + list(added) + list(after)):
                    nothing = zero(house)
                    total = plus(house, before.get(row, nothing), added.get(row, nothing))
                    self.assertEqual(total, after.get(row, nothing))


if __name__ == "__main__":
    unittest.main()
