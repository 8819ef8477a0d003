"""The worths of rows and the answers of questions: [16], [19], [20]."""

import copy
import itertools
import random
import unittest

from anyworth.houses import is_worth, multiple, one, plus, power, product_of, sum_of, times, zero
from anyworth.plainly import plain_answers, plain_worth, store_worth
from anyworth.reading import read_question
from anyworth.values import sorted_rows
from tests.polynomial import tag
from tests.samples import BIG, WORTHS
from tests.terms import val, var

COUNTS = ("counts",)


def turned(term, valuation):
    return valuation[term[1]] if term[0] == "var" else term[1]


def worths_by_definition(house, facts, question):
    """Return the worths of all rows, by all valuations with the values of the facts."""
    values = sorted_rows([(value,) for _, row, _ in facts for value in row])
    values = [value for value, in values]
    worths = {}
    for head, body in question[1]:
        variables = sorted({x for _, terms in body for kind, x in terms if kind == "var"})
        for chosen in itertools.product(values, repeat=len(variables)):
            valuation = dict(zip(variables, chosen))
            product = one(house)
            for name, terms in body:
                row = tuple(turned(term, valuation) for term in terms)
                total = zero(house)
                for told, told_row, worth in facts:
                    if (told, told_row) == (name, row):
                        total = plus(house, total, worth)
                product = times(house, product, total)
            row = tuple(turned(term, valuation) for term in head)
            worths[row] = plus(house, worths.get(row, zero(house)), product)
    return worths


def some_term(chance):
    return var(chance.choice("xyz")) if chance.randrange(4) else val(chance.choice([1, 2, "a"]))


def some_question(chance, width):
    """Return a valid question over the names p and q."""
    joins = []
    for _ in range(chance.randrange(4)):
        body = []
        for _ in range(chance.randrange(4)):
            body.append((chance.choice("pq"), tuple(some_term(chance) for _ in range(chance.randrange(3)))))
        told = [term for _, terms in body for term in terms] + [val(1), val("a")]
        joins.append((tuple(chance.choice(told) for _ in range(width)), tuple(body)))
    return (width, tuple(joins))


def some_facts(chance, worths):
    """Return facts of the names p, q and r, some of them with the same row."""
    facts = []
    for _ in range(chance.randrange(7)):
        row = tuple(chance.choice([1, 2, "a"]) for _ in range(chance.randrange(3)))
        facts.append((chance.choice("ppqqr"), row, chance.choice(worths)))
    return facts


class StoreWorthTest(unittest.TestCase):
    FACTS = [("a", (1,), 2), ("a", (1,), 3), ("b", (1,), 7), ("a", (1, 1), 11), ("a", (), 13), ("a", ("b",), 17),
             ("a", (2,), 0)]

    def test_facts_with_the_name_and_the_row(self):
        for name, row, worth in [("a", (1,), 5), ("b", (1,), 7), ("a", (1, 1), 11), ("a", (), 13), ("a", ("b",), 17),
                                 ("a", (2,), 0)]:
            self.assertEqual(store_worth(COUNTS, self.FACTS, name, row), worth)

    def test_no_such_fact(self):
        for name, row in [("c", (1,)), ("b", ()), ("b", ("b",)), ("a", (3,)), ("a", ("a",)), ("a", (1, 1, 1)),
                          ("aa", (1,)), ("a", (1,) * 9), ("b", ("a", 1))]:
            self.assertEqual(store_worth(COUNTS, self.FACTS, name, row), 0)
            self.assertEqual(store_worth(("least",), self.FACTS, name, row), None)
            self.assertEqual(store_worth(("divisors", 12), [], name, row), 1)

    def test_houses_of_every_form(self):
        for house, worths in WORTHS.items():
            self.assertEqual(store_worth(house, [], "a", (1,)), zero(house))
            for a, b in itertools.product(worths, repeat=2):
                facts = [("a", (1,), a), ("b", (1,), b), ("a", (1,), b), ("a", (2,), a)]
                self.assertEqual(store_worth(house, facts, "a", (1,)), plus(house, a, b))
                self.assertEqual(store_worth(house, facts, "b", (1,)), b)

    def test_sums_that_become_zero(self):
        facts = [("a", (1,), 4), ("a", (1,), 1), ("a", (1,), 1)]
        self.assertEqual(store_worth(("modulo", 6), facts, "a", (1,)), 0)
        self.assertEqual(store_worth(("modulo", 5), facts[1:], "a", (1,)), 2)

    def test_the_list_is_as_it_was(self):
        facts = list(self.FACTS)
        store_worth(COUNTS, facts, "a", (1,))
        self.assertEqual(facts, self.FACTS)


class AnswersTest(unittest.TestCase):
    def check(self, house, facts, text, expected):
        """Check the answers, and the worth of each of their rows."""
        question = read_question(text) if isinstance(text, str) else text
        before = copy.deepcopy(facts)
        answers = plain_answers(house, facts, question)
        self.assertEqual(answers, expected)
        self.assertIs(type(answers), tuple)
        for answer in answers:
            self.assertIs(type(answer), tuple)
            self.assertIs(type(answer[0]), tuple)
        for row, worth in expected:
            self.assertEqual(plain_worth(house, facts, question, row), worth)
        for row in [("nowhere",) * (question[0] or 8), (1,) * (question[0] + 1), (1,) * 9]:
            self.assertEqual(plain_worth(house, facts, question, row), zero(house))
        self.assertEqual(facts, before)

    ROADS = [("road", ("a", "b"), 4), ("road", ("b", "c"), 3), ("road", ("a", "c"), 9), ("road", ("c", "c"), 2)]

    def test_two_atoms(self):
        text = "(x, z) if road(x, y) and road(y, z)"
        self.check(COUNTS, self.ROADS, text, ((("a", "c"), 12 + 18), (("b", "c"), 6), (("c", "c"), 4)))
        self.check(("least",), self.ROADS, text, ((("a", "c"), 7), (("b", "c"), 5), (("c", "c"), 4)))

    def test_sums_over_variables_that_the_head_has_not(self):
        self.check(COUNTS, self.ROADS, "() if road(x, y)", (((), 18),))
        self.check(COUNTS, self.ROADS, "(x) if road(x, y)", ((("a",), 13), (("b",), 3), (("c",), 2)))
        self.check(COUNTS, self.ROADS, "(y, y) if road(x, y)", ((("b", "b"), 4), (("c", "c"), 14)))

    def test_variables_that_stand_twice(self):
        self.check(COUNTS, self.ROADS, "(x) if road(x, x)", ((("c",), 2),))
        self.check(COUNTS, self.ROADS, "(x, x) if road(x, y) and road(x, y)",
                   ((("a", "a"), 16 + 81), (("b", "b"), 9), (("c", "c"), 4)))
        self.check(COUNTS, self.ROADS, "(x) if road(x, y) and road(y, x)", ((("c",), 4),))

    def test_the_same_atom_several_times(self):
        self.check(COUNTS, [("a", (1,), 3)], "(x) if a(x) and a(x) and a(x)", (((1,), 27),))
        self.check(("least",), [("a", (1,), 3)], "() if a(x) and a(x)", (((), 6),))
        self.check(("sums",), [("a", (), (0, 2))], "() if a() and a() and a()", (((), (0, 2, 4, 6)),))
        self.check(("formulas",), [("a", (5,), tag(1)), ("a", (6,), tag(2))], "() if a(x) and a(x)",
                   (((), ((((1, 2),), 1), (((2, 2),), 1))),))
        self.check(("formulas",), [("a", (5,), tag(1)), ("a", (6,), tag(2))], "() if a(x) and a(y)",
                   (((), ((((1, 1), (2, 1)), 2), (((1, 2),), 1), (((2, 2),), 1))),))

    def test_facts_with_the_same_name_and_row(self):
        facts = [("a", (1,), 2), ("a", (2,), 5), ("a", (1,), 3)]
        self.check(COUNTS, facts, "(x) if a(x)", (((1,), 5), ((2,), 5)))
        self.check(COUNTS, facts, "(x) if a(x) and a(x)", (((1,), 25), ((2,), 25)))
        self.check(COUNTS, facts, "() if a(x)", (((), 10),))
        self.check(("formulas",), [("a", (1,), tag(1)), ("a", (1,), tag(2))], "(x) if a(x) and a(x)",
                   (((1,), ((((1, 1), (2, 1)), 2), (((1, 2),), 1), (((2, 2),), 1))),))

    def test_sums_that_become_zero(self):
        facts = [("a", (1,), 2), ("a", (1,), 4), ("a", (2,), 1), ("b", (1,), 3), ("b", (2,), 5)]
        house = ("modulo", 6)
        self.check(house, facts, "(x) if a(x)", (((2,), 1),))
        self.check(house, facts, "() if a(x)", (((), 1),))
        self.check(house, facts, "(x) if a(x) and b(y)", (((2,), 2),))
        self.check(house, facts, "(x) if b(x) and b(y)", (((2,), 4),))
        self.check(house, facts, "() if b(x); () if b(x); () if b(x)", ())

    def test_worths_of_zero(self):
        facts = [("a", (1,), 0), ("a", (2,), 3), ("b", (1,), 5), ("b", (2,), 7)]
        self.check(COUNTS, facts, "(x) if a(x)", (((2,), 3),))
        self.check(COUNTS, facts, "(x) if a(x) and b(x)", (((2,), 21),))
        self.check(COUNTS, facts, "(x) if b(x) and a(y)", (((1,), 15), ((2,), 21)))
        self.check(COUNTS, facts[:1], "(x) if a(x)", ())
        self.check(("least",), [("a", (1,), None), ("a", (2,), 0)], "(x) if a(x)", (((2,), 0),))
        self.check(("divisors", 12), [("a", (1,), 4), ("b", (1,), 3), ("b", (2,), 6), ("a", (2,), 4)],
                   "(x) if a(x) and b(x)", (((2,), 2),))
        self.check(("modulo", 1), [("a", (1,), 0)], "(x) if a(x); (1) if true", ())

    def test_no_facts(self):
        for house in WORTHS:
            self.check(house, [], "(x) if a(x)", ())
            self.check(house, [], "() if a()", ())
            answers = (((1,), one(house)),) if one(house) != zero(house) else ()
            self.check(house, [], "(1) if true; (x) if a(x)", answers)

    def test_values_in_heads_and_atoms(self):
        facts = [("a", (1, "p"), 2), ("a", (2, "p"), 3), ("a", (1, "q"), 5), ("a", (-4, 7), 7)]
        self.check(COUNTS, facts, '(x) if a(x, "p")', (((1,), 2), ((2,), 3)))
        self.check(COUNTS, facts, "(y) if a(1, y)", ((("p",), 2), (("q",), 5)))
        self.check(COUNTS, facts, '(9, x, "w") if a(x, y)', (((9, -4, "w"), 7), ((9, 1, "w"), 7), ((9, 2, "w"), 3)))
        self.check(COUNTS, facts, '(3) if a(x, "p")', (((3,), 5),))
        self.check(COUNTS, facts, "() if a(-4, 7)", (((), 7),))
        self.check(COUNTS, facts, '("x") if a(x, "q") and a(1, "p")', ((("x",), 10),))
        self.check(COUNTS, facts, '() if a(7, "p")', ())
        self.check(COUNTS, facts, "() if a(x, y) and b(y)", ())

    def test_words_and_variables_of_the_same_letters(self):
        facts = [("x", ("y",), 2), ("x", ("x",), 3)]
        self.check(COUNTS, facts, '(x) if x(x)', ((("x",), 3), (("y",), 2)))
        self.check(COUNTS, facts, '(x) if x(x) and x("y")', ((("x",), 6), (("y",), 4)))
        self.check(COUNTS, facts, '("x", y) if x(y)', ((("x", "x"), 3), (("x", "y"), 2)))

    def test_rows_of_other_lengths(self):
        facts = [("a", (), 2), ("a", (1,), 3), ("a", (1, 2), 5), ("a", (1, 2, 3), 7)]
        self.check(COUNTS, facts, "(1) if a()", (((1,), 2),))
        self.check(COUNTS, facts, "(x) if a(x)", (((1,), 3),))
        self.check(COUNTS, facts, "(x, y) if a(x, y)", (((1, 2), 5),))
        self.check(COUNTS, facts, "(x) if a(x) and a(x, y) and a()", (((1,), 30),))
        self.check(COUNTS, facts, "(x) if a(x, y, z, u)", ())
        self.check(COUNTS, facts, "(1) if a(1, 2, 3)", (((1,), 7),))

    def test_rows_of_another_length_than_the_width(self):
        question = read_question("(x) if a(x); (1) if true")
        facts = [("a", (1,), 3), ("a", (), 7)]
        self.assertEqual(plain_worth(COUNTS, facts, question, (1,)), 4)
        for row in [(), (1, 1), (1, 2), (1,) * 8, (1,) * 9, (1,) * 30]:
            self.assertEqual(plain_worth(COUNTS, facts, question, row), 0)
            self.assertEqual(plain_worth(("least",), facts, question, row), None)

    def test_empty_bodies(self):
        for house in WORTHS:
            unit = one(house)
            row = ((), unit)
            self.check(house, [("a", (1,), unit)], "() if true", (row,) if unit != zero(house) else ())
        self.check(COUNTS, [], '(3, "a") if true', (((3, "a"), 1),))
        self.check(COUNTS, [("a", (3,), 5)], "(3) if true; (3) if true; (x) if a(x); (4) if true",
                   (((3,), 7), ((4,), 1)))
        self.check(("divisors", 12), [], "() if true", (((), 12),))

    def test_without_joins(self):
        for width in range(9):
            for house in WORTHS:
                self.check(house, [("a", (1,) * width, one(house))], (width, ()), ())

    def test_several_joins(self):
        facts = [("a", (1,), 2), ("a", (2,), 3), ("b", (2,), 5), ("b", (3,), 7)]
        self.check(COUNTS, facts, "(x) if a(x); (x) if b(x)", (((1,), 2), ((2,), 8), ((3,), 7)))
        self.check(COUNTS, facts, "(x) if a(x); (x) if a(x)", (((1,), 4), ((2,), 6)))
        self.check(COUNTS, facts, "(x) if a(x); (2) if b(y)", (((1,), 2), ((2,), 15)))
        self.check(("sums",), [("a", (1,), (3,)), ("b", (1,), (4, 5))], "(x) if a(x); (x) if b(x)",
                   (((1,), (3, 4, 5)),))

    def test_the_order_of_the_rows(self):
        rows = [(-BIG,), (-3,), (0,), (9,), (10,), (BIG,), ("a",), ("aa",), ("ab",), ("b",)]
        expected = tuple((row, 1) for row in rows)
        for seed in range(10):
            facts = [("a", row, 1) for row in rows]
            random.Random(seed).shuffle(facts)
            self.check(COUNTS, facts, "(x) if a(x)", expected)
        pairs = [("a", (1, "b"), 1), ("a", ("a", 2), 1), ("a", (1, 5), 1), ("a", ("a", "a"), 1), ("a", (0, "z"), 1)]
        self.check(COUNTS, pairs, "(x, y) if a(x, y)",
                   (((0, "z"), 1), ((1, 5), 1), ((1, "b"), 1), (("a", 2), 1), (("a", "a"), 1)))

    def test_the_greatest_numbers(self):
        row = tuple("abcdefgh")
        text = "(" + ", ".join(row) + ")"
        question = read_question("; ".join([text + " if " + " and ".join(["n" + text] * 8)] * 12))
        facts = [("n", tuple(range(k, k + 8)), 2) for k in range(200)]
        answers = plain_answers(COUNTS, facts, question)
        self.assertEqual(answers, tuple((tuple(range(k, k + 8)), 12 * 2 ** 8) for k in range(200)))

    def test_many_valuations(self):
        # 8 atoms over 8 facts each have 8 ** 8 valuations.
        star = "() if " + " and ".join(f"e(x, {y})" for y in "abcdefgh")
        lone = "() if " + " and ".join(f"e({x}, {y})" for x, y in zip("abcdefgh", "ijklmnop"))
        facts = [("e", (0, k), k + 1) for k in range(8)]
        self.check(COUNTS, facts, star + "; " + lone, (((), 2 * 36 ** 8),))
        self.check(COUNTS, facts + [("e", (1, 1), 2)], star, (((), 36 ** 8 + 2 ** 8),))
        facts = [("e", (0, k), (k,)) for k in range(8)]
        self.check(("sums",), facts, star + "; " + lone, (((), tuple(range(57))),))
        self.check(("sums",), facts, lone.replace("()", "(a)"), (((0,), tuple(range(57))),))
        facts = [("e", (0, k), ((k, 7 - k),)) for k in range(8)]
        self.check(("prices", 2), facts, star, (((), tuple((k, 56 - k) for k in range(57))),))

    def test_atoms_with_few_rows_that_stand_last(self):
        facts = [("a", (k, k), 2) for k in range(7)] + [("b", (6, 5, 4, 3, 2, 1, 0), 3)]
        text = " and ".join(f"a({x}, {y})" for x, y in zip("abcdefg", "hijklmn"))
        self.check(COUNTS, facts, f"(h) if {text} and b(a, b, c, d, e, f, g)", (((6,), 3 * 2 ** 7),))

    def test_sums_of_the_products_alone(self):
        # The sum of the worths under e alone would have 2 ** 60 members.
        whole = 2 ** 60 - 1
        facts = [("e", (0, k), (2 ** k,)) for k in range(60)] + [("g", (0, k), (whole,)) for k in range(9)]
        for text in ["() if e(x, y) and g(x, z)", "() if g(x, z) and e(x, y)", "() if g(x, z) and g(x, y) and e(x, z)"]:
            self.check(("families",), facts, text, (((), (whole,)),))
        self.check(("families",), facts, "(y) if e(x, y) and g(x, y)", tuple(((k,), (whole,)) for k in range(9)))

    def test_by_the_definition(self):
        chance = random.Random(41)
        for house, worths in WORTHS.items():
            small = [worth for worth in worths if len(str(worth)) < 200]
            for _ in range(14):
                facts, question = some_facts(chance, small), some_question(chance, chance.randrange(3))
                expected = worths_by_definition(house, facts, question)
                rows = [row for row in sorted_rows(list(expected)) if expected[row] != zero(house)]
                answers = plain_answers(house, facts, question)
                self.assertEqual(answers, tuple((row, expected[row]) for row in rows))
                for row, worth in expected.items():
                    self.assertEqual(plain_worth(house, facts, question, row), worth)
                    self.assertIs(is_worth(house, worth), True)

    def test_sums_and_products_in_every_house(self):
        for house, worths in WORTHS.items():
            for a, b in itertools.product(worths[:5], repeat=2):
                facts = [("p", (1,), a), ("p", (2,), b), ("q", (2,), a)]
                total = sum_of(house, [a, b])
                worth = plain_worth(house, facts, read_question("() if p(x)"), ())
                self.assertEqual(worth, total)
                worth = plain_worth(house, facts, read_question("(x) if p(x) and q(x)"), (2,))
                self.assertEqual(worth, product_of(house, [a, b]))
                worth = plain_worth(house, facts, read_question("(1) if p(1) and p(1) and p(1)"), (1,))
                self.assertEqual(worth, power(house, a, 3))
                worth = plain_worth(house, facts, read_question("(1) if p(1); (1) if p(1); (x) if p(x)"), (1,))
                self.assertEqual(worth, multiple(house, a, 3))

    def test_later_changes_have_no_effect(self):
        facts = [("a", (1,), (0, 2)), ("a", (2,), (1,))]
        question = read_question("(x) if a(x)")
        answers = plain_answers(("sums",), facts, question)
        facts.clear()
        self.assertEqual(answers, (((1,), (0, 2)), ((2,), (1,))))


if __name__ == "__main__":
    unittest.main()
