"""The comparison of questions for each kind: [27], [29], and [26] for what its papers tell."""

import copy
import itertools
import random
import unittest

from anyworth.comparing import compare, judge, judge_within, parts, parts_from, within
from anyworth.errors import OtherWidths
from anyworth.houses import is_house, is_worth, kinds_of, one, plus, zero
from anyworth.plainly import plain_worth
from anyworth.reading import read_question
from anyworth.values import is_row, is_word
from tests.joins import HALF_KINDS, is_good_half, is_good_paper, is_same, is_within, some_joins, turned_about, variables
from tests.polynomial import KINDS
from tests.samples import BIG, WORTHS

HOUSES = {"all": ("counts",), "once": ("sums",), "sets": ("families",), "yes": ("yes",)}


def path(letters):
    return "() if " + " and ".join(f"e({x}, {y})" for x, y in zip(letters, letters[1:]))


def star(letters):
    return "() if " + " and ".join(f"e(x, {y})" for y in letters)


def is_small(question, other):
    """Tell whether few enough maps lead from each join of one question to one of the other."""
    return max((len(variables(join)) for join in question[1] + other[1]), default=0) <= 4


class CompareCase(unittest.TestCase):
    def check_case(self, kind, case, question, other):
        """Check the form of a case, and return the two worths that it tells of."""
        house, facts, row = case
        if kind == "prices":
            self.assertEqual((len(house), house[0]), (2, "prices"))
        else:
            self.assertEqual(house, HOUSES[kind])
        self.assertIs(is_house(house), True)
        self.assertIn(kind, kinds_of(house))
        self.assertIs(type(facts), tuple)
        self.assertIs(type(row), tuple)
        for name, values, worth in facts:
            self.assertIs(is_word(name), True)
            self.assertIs(is_row(values), True)
            self.assertIs(is_worth(house, worth), True)
        return (plain_worth(house, list(facts), question, row), plain_worth(house, list(facts), other, row))

    def check_compare(self, kind, question, other, expected):
        before = copy.deepcopy((question, other))
        answer, told = compare(kind, question, other)
        self.assertEqual(answer, "same" if expected else "apart")
        if expected:
            self.assertIs(judge(kind, question, other, told), True)
            self.assertIs(not is_small(question, other) or is_good_paper(kind, question, other, told), True)
        else:
            worth, against = self.check_case(kind, told, question, other)
            self.assertNotEqual(worth, against)
            self.assertIs(parts(told, question, other), True)
        self.assertEqual((question, other), before)

    def check_within(self, kind, question, other, expected):
        answer, told = within(kind, question, other)
        self.assertEqual(answer, "within" if expected else "not")
        if expected:
            self.assertIs(judge_within(kind, question, other, told), True)
            self.assertIs(not is_small(question, other) or is_good_half(kind, question, other, told), True)
        else:
            worth, against = self.check_case(kind, told, question, other)
            self.assertNotEqual(plus(told[0], worth, against), against)
            self.assertIs(parts_from(told, question, other), True)

    def check_same(self, text, other_text, *kinds):
        """Check that the questions are worth the same for these kinds, and for no other ones."""
        for one_text, more in [(text, other_text), (other_text, text)]:
            question, other = read_question(one_text), read_question(more)
            for kind in KINDS:
                with self.subTest(kind=kind, text=one_text, other=more):
                    self.check_compare(kind, question, other, kind in kinds)

    def check_inside(self, text, other_text, *kinds):
        """Check that the question is within the other one for these kinds, and for no other ones."""
        question, other = read_question(text), read_question(other_text)
        for kind in HALF_KINDS:
            with self.subTest(kind=kind, text=text, other=other_text):
                self.check_within(kind, question, other, kind in kinds)


class CompareTest(CompareCase):
    def test_other_names_and_another_order(self):
        self.check_same("(x, z) if e(x, y) and e(y, z)", "(a, b) if e(c, b) and e(a, c)", *KINDS)
        self.check_same("(x) if a(x); (x) if b(x, y)", "(y) if b(y, x); (z) if a(z)", *KINDS)
        self.check_same("(x, z) if e(x, y) and e(y, z)", "(z, x) if e(x, y) and e(y, z)")
        self.check_same("(x) if e(x, y)", "(y) if e(x, y)")
        self.check_same("(x) if a(x)", "(x) if b(x)")
        self.check_same("(x) if a(x)", "(x) if a(x, x)")

    def test_a_join_twice(self):
        self.check_same("(x) if a(x); (y) if a(y)", "(x) if a(x)", "once", "sets", "prices", "yes")
        self.check_same("(x) if a(x); (y) if a(y); (x) if a(x)", "(x) if a(x); (x) if a(x)", "once", "sets", "prices",
                        "yes")
        self.check_same("(x) if a(x); (1) if b()", "(1) if b(); (x) if a(x); (1) if b()", "once", "sets", "prices",
                        "yes")
        self.check_same("() if a(x) and a(y); () if a(x)", "() if a(x); () if a(y); () if a(x) and a(z)",
                        "once", "sets", "prices", "yes")

    def test_an_atom_twice(self):
        self.check_same("(x) if a(x) and a(x)", "(x) if a(x)", "sets", "yes")
        self.check_same("() if a(x) and a(x); () if b()", "() if b() and b() and b(); () if a(x)", "sets", "yes")
        self.check_same("(x) if a(x) and a(x); (x) if a(x)", "(x) if a(x)", "sets", "prices", "yes")
        self.check_same("() if a() and a()", "() if a() and a() and a()", "sets", "yes")

    def test_an_atom_more(self):
        self.check_same("(x) if e(x, y) and e(x, z)", "(x) if e(x, y)", "sets", "yes")
        self.check_same("(x) if e(x, x) and e(x, y)", "(x) if e(x, x)", "yes")
        self.check_same("() if e(x, y) and e(z, z)", "() if e(x, x)", "yes")
        self.check_same("(x) if e(x, y) and e(x, z) and e(x, z)", "(x) if e(x, y) and e(x, z)", "sets", "yes")
        self.check_same("(x) if e(x, y) and f(z)", "(x) if e(x, y)")
        self.check_same("(x) if e(x, y); (x) if e(x, y) and f(z)", "(x) if e(x, y)", "prices", "yes")
        self.check_same("() if a(x) and a(y)", "() if a(x)", "sets", "yes")
        self.check_same("() if a(x); () if a(x) and a(x)", "() if a(x)", "sets", "prices", "yes")
        self.check_same("() if a(x); () if a(x) and a(y)", "() if a(x)", "sets", "prices", "yes")

    def test_joins_that_another_one_has_as_a_special_form(self):
        self.check_same("() if e(x, y); () if e(z, z)", "() if e(x, y)", "once", "sets", "prices", "yes")
        self.check_same("() if e(x, y); () if e(1, y)", "() if e(x, y)", "once", "sets", "prices", "yes")
        self.check_same("() if e(x, y)", "() if e(z, z)")
        self.check_same("() if e(x, y); () if e(x, x)", "() if e(x, y); () if e(1, x)", "once", "sets", "prices", "yes")

    def test_values(self):
        self.check_same('(x, 1) if a(x, "b")', '(y, 1) if a(y, "b")', *KINDS)
        self.check_same("() if a(1)", "() if a(2)")
        self.check_same("() if a(1)", '() if a("a")')
        self.check_same("() if a(1)", "() if a(x)")
        self.check_same("() if a(1); () if a(x)", "() if a(x)", "once", "sets", "prices", "yes")
        self.check_same("(1) if a(x)", "(2) if a(x)")
        self.check_same("(1) if a(x)", "(x) if a(x)")
        self.check_same('("x") if a("x")', "(x) if a(x)")
        self.check_same('("x") if a("x"); (x) if a(x)', "(x) if a(x)", "once", "sets", "prices", "yes")
        self.check_same(f"() if a({BIG}, x)", f"() if a({BIG + 1}, x)")
        self.check_same(f"() if a({BIG}, x) and b(-1)", f"() if a({BIG}, y) and b(-1)", *KINDS)

    def test_values_that_are_not_the_fresh_ones(self):
        for text in ["0", "1", "2", "-1", '"a"', '"x"', '"b"']:
            self.check_same(f"() if a({text})", "() if a(x)")
            self.check_same(f"() if e(x, y) and a({text})", "() if e(x, y) and a(x)")
            self.check_same(f"(x, y) if e(x, y) and a({text})", "(x, y) if e(x, y) and a(y)")
        self.check_inside("() if a(x)", "() if a(0); () if a(1); () if a(2); () if a(-1)")
        self.check_inside("() if a(x, y)", "() if a(0, z); () if a(1, z); () if a(2, z); () if a(z, 1); () if a(z, 2)")

    def test_empty_bodies(self):
        self.check_same("() if true", "() if true", *KINDS)
        self.check_same("() if true; () if true", "() if true", "once", "sets", "prices", "yes")
        self.check_same("(3) if true", "(4) if true")
        self.check_same("(3) if true; (4) if true", "(4) if true; (3) if true", *KINDS)
        self.check_same("() if true", "() if a()")
        self.check_same("() if true; () if a(x)", "() if true", "prices", "yes")
        self.check_same("(1) if true; (x) if a(x)", "(1) if true")

    def test_no_joins(self):
        self.check_same("none 0", "none 0", *KINDS)
        self.check_same("none 8", "none 8", *KINDS)
        self.check_same("none 1", "(x) if a(x)")
        self.check_same("none 0", "() if true")
        self.check_same("none 2", "(x, x) if a(x); (1, 2) if true")

    def test_joins_that_together_cover_another_one(self):
        self.check_same("() if a(x); () if b(x); () if a(x) and b(y)", "() if a(x); () if b(x)", "sets", "prices",
                        "yes")
        self.check_same("() if a(); () if b(); () if c(); () if a() and b() and c()", "() if a(); () if b(); () if c()",
                        "sets", "prices", "yes")
        self.check_same("() if a() and b(); () if b() and c(); () if a() and b() and c()",
                        "() if b() and c(); () if a() and b()", "sets", "prices", "yes")
        self.check_same("() if a() and b(); () if a() and c(); () if a() and b() and c()",
                        "() if a() and b(); () if a() and c(); () if a() and b() and c(); () if a() and b() and c()",
                        "once", "sets", "prices", "yes")
        self.check_same("() if a() and b(); () if c(); () if a() and c()", "() if a() and b(); () if c()", "prices",
                        "yes")
        self.check_same("(x) if e(x, y); (x) if e(x, y) and e(x, z)", "(x) if e(x, y)", "sets", "prices", "yes")

    def test_the_same_for_some_kinds_alone(self):
        self.check_same("() if a(x) and a(x); () if a(x) and a(y)", "() if a(x) and a(y)", "once", "sets", "prices",
                        "yes")
        self.check_same("() if a(x) and a(y); () if a(x) and a(x) and a(x)", "() if a(x) and a(x); () if a(x) and a(y)",
                        "sets", "prices", "yes")
        self.check_same("() if a(x) and a(y); () if a(x)", "() if a(x) and a(x); () if a(x)", "sets", "prices", "yes")
        self.check_same("() if a() and b(); () if c() and d()",
                        "() if a() and b(); () if c() and d(); () if a() and b() and c()", "prices", "yes")

    def test_numbers_of_joins(self):
        for many, more in itertools.product(range(4), repeat=2):
            text, other = "; ".join(["() if a(x)"] * many), "; ".join(["() if a(x)"] * more)
            kinds = KINDS if many == more else HALF_KINDS if many and more else ()
            self.check_same(text or "none 0", other or "none 0", *kinds)
        self.check_same("() if a(x); () if a(1); () if a(1)", "() if a(x); () if a(x); () if a(1)",
                        "once", "sets", "prices", "yes")
        self.check_same("() if e(x, y); () if e(x, y); () if e(x, x)", "() if e(x, y); () if e(x, x); () if e(x, x)",
                        "once", "sets", "prices", "yes")
        self.check_same("() if e(x, y); () if e(x, x); () if e(1, 1)", "() if e(x, y); () if e(1, x); () if e(2, 1)",
                        "once", "sets", "prices", "yes")

    def test_the_example_of_the_document(self):
        self.check_same("(x) if a(x); (x) if a(x)", "(x) if a(x)", "once", "sets", "prices", "yes")
        self.check_inside("() if a(x) and b(y)", "() if a(x); () if b(x)", "sets", "prices", "yes")
        self.check_inside("() if a(x); () if b(x)", "() if a(x) and b(y)")


class WithinTest(CompareCase):
    def test_within(self):
        self.check_inside("(x) if a(x)", "(x) if a(x); (x) if b(x)", *HALF_KINDS)
        self.check_inside("(x) if a(x); (x) if b(x)", "(x) if a(x)")
        self.check_inside("(x) if a(x) and b(x)", "(x) if a(x)", "prices", "yes")
        self.check_inside("(x) if a(x)", "(x) if a(x) and b(x)")
        self.check_inside("(x) if a(x) and a(x)", "(x) if a(x)", "sets", "prices", "yes")
        self.check_inside("(x) if a(x)", "(x) if a(x) and a(x)", "sets", "yes")
        self.check_inside("() if e(x, x)", "() if e(x, y)", *HALF_KINDS)
        self.check_inside("() if e(x, y)", "() if e(x, x)")
        self.check_inside("() if e(1, 2)", "() if e(x, y)", *HALF_KINDS)
        self.check_inside("(x) if e(x, y)", "(x) if e(x, y) and e(x, z)", "sets", "yes")
        self.check_inside("(x) if e(x, x)", "(x) if e(x, x) and e(x, y)", "sets", "yes")
        self.check_inside("(x) if e(x, x) and e(x, y)", "(x) if e(x, x)", "prices", "yes")
        self.check_inside("(x) if e(x, y) and e(x, z)", "(x) if e(x, y)", "sets", "prices", "yes")

    def test_no_joins_and_empty_bodies(self):
        self.check_inside("none 1", "none 1", *HALF_KINDS)
        self.check_inside("none 1", "(x) if a(x)", *HALF_KINDS)
        self.check_inside("(x) if a(x)", "none 1")
        self.check_inside("(1) if true", "none 1")
        self.check_inside("(1) if true", "(1) if true; (1) if a(x)", *HALF_KINDS)
        self.check_inside("(1) if a(x)", "(1) if true", "prices", "yes")
        self.check_inside("(1) if true", "(1) if a(x)")
        self.check_inside("(1) if true; (2) if true", "(2) if true")
        self.check_inside("(1) if a(x); (1) if true", "(1) if true; (2) if b()", "prices", "yes")

    def test_covers_by_several_joins(self):
        parts_of_it = "(x) if a(x) and b(y); (x) if a(x) and c(y); (x) if a(x) and e(y, y)"
        self.check_inside("(x) if a(x) and b(y) and c(y)", parts_of_it, "sets", "prices", "yes")
        self.check_inside("(x) if a(x) and b(y) and c(y) and e(z, z)", parts_of_it, "sets", "prices", "yes")
        self.check_inside("(x) if a(x) and b(y) and c(y) and e(z, y)", parts_of_it, "prices", "yes")
        self.check_inside("(x) if a(x) and b(y) and e(y, z) and e(z, z)", parts_of_it, "prices", "yes")
        self.check_inside("() if e(x, y) and e(y, z)", "() if e(x, y)", "sets", "prices", "yes")
        self.check_inside("() if e(x, y)", "() if e(x, y) and e(y, z)")

    def test_what_is_within_adds_nothing_in_houses_of_the_kind(self):
        chance = random.Random(30)
        rows = [(), (1,), (2,), ("a",), (1, 2), ("a", 1)]
        for _ in range(150):
            question, other = some_joins(chance, 1, 1), some_joins(chance, 1, 2)
            told = {kind: within(kind, question, other)[0] == "within" for kind in HALF_KINDS}
            house, worths = chance.choice(list(WORTHS.items()))
            small = [worth for worth in worths if len(str(worth)) < 100]
            facts = [(name, (chance.choice([1, 2, "a"]),) * (2 if name == "q" else 1), chance.choice(small))
                     for name in "ppqqq"]
            for kind, row in itertools.product(HALF_KINDS, rows):
                if told[kind] and kind in kinds_of(house):
                    self.assertIs(parts_from((house, tuple(facts), row), question, other), False)


class ManyTest(CompareCase):
    def test_by_the_words_of_the_document(self):
        chance = random.Random(31)
        told = {}
        for at in range(500):
            width = chance.randrange(2)
            question = some_joins(chance, width, chance.randrange(4))
            other = (turned_about(chance, question) if at % 3 == 0 else some_joins(chance, width, chance.randrange(4)))
            if at % 3 == 1 and question[1]:
                more = (width, question[1] + (chance.choice(question[1]),) + some_joins(chance, width, 1)[1])
                other = turned_about(chance, more)
            results = {}
            for kind in KINDS:
                results[kind] = is_same(kind, question, other)
                self.check_compare(kind, question, other, results[kind])
                told[kind, results[kind]] = told.get((kind, results[kind]), 0) + 1
                if kind != "all":
                    self.check_within(kind, question, other, is_within(kind, question, other))
            for kind, wider in [("all", "once"), ("once", "sets"), ("once", "prices"), ("sets", "yes"),
                                ("prices", "yes")]:
                self.assertLessEqual(results[kind], results[wider])
        self.assertGreater(min(told.values()), 50)
        self.assertEqual(len(told), 10)

    def test_eight_atoms_of_one_name(self):
        eight, seven = star("abcdefgh"), star("abcdefg")
        self.check_same(eight, seven, "sets", "yes")
        self.check_same(eight, star("hgfedcba"), *KINDS)
        self.check_same(path("abcdefghi"), path("abcdefgh"))
        self.check_same(path("abcdefghi"), path("ihgfedcba"), *KINDS)
        self.check_inside(path("abcdefghi"), path("abcdefgh"), "sets", "prices", "yes")
        self.check_inside(path("abcdefgh"), path("abcdefghi"))
        cycle = path("abcdefgha")
        self.check_same(cycle, path("hgfedcbah"), *KINDS)
        self.check_same(cycle, path("abcda"))
        self.check_inside(cycle, path("abcda"))
        self.check_inside(path("abcda"), cycle, "sets", "yes")
        self.check_inside(path("aa"), cycle, "sets", "yes")
        self.check_inside(cycle, path("abcdefghi"), "once", "sets", "prices", "yes")
        two = "() if " + " and ".join(text[6:] for text in [path("abcda"), path("efghe")])
        self.check_same(two, cycle)
        self.check_inside(two, cycle, "sets", "yes")
        self.check_inside("() if e(x, x) and e(x, y)", cycle, "yes")

    def test_eight_atoms_without_common_variables(self):
        eight = "() if " + " and ".join(f"e({x}, {y})" for x, y in zip("abcdefgh", "ijklmnop"))
        self.check_same(eight, "() if e(x, y)", "sets", "yes")
        self.check_same(eight, "() if " + " and ".join(["e(x, y)"] * 8), "sets", "yes")
        self.check_inside("() if " + " and ".join(["e(x, y)"] * 8), eight, *HALF_KINDS)
        self.check_inside(eight, star("abcdefgh"), "sets", "yes")
        self.check_inside(star("abcdefgh"), eight, *HALF_KINDS)

    def test_twelve_joins(self):
        texts = [path("abcdefghi"[:many]) for many in range(2, 9)] + [star("abcdefgh"[:many]) for many in range(4, 9)]
        question = read_question("; ".join(texts))
        other = turned_about(random.Random(32), question)
        less = read_question("; ".join(texts[:-1] + texts[-2:-1]))
        for kind in KINDS:
            self.check_compare(kind, question, question, True)
            self.check_compare(kind, question, other, True)
            self.check_compare(kind, question, less, kind in ("sets", "prices", "yes"))
            if kind != "all":
                self.check_within(kind, question, less, kind != "once")
                self.check_within(kind, less, question, True)

    def test_the_greatest_numbers_of_terms(self):
        letters = "abcdefgh"
        head = "(" + ", ".join(letters) + ")"
        body = " and ".join("n(" + ", ".join(letters[k:] + letters[:k]) + ")" for k in range(8))
        turned = " and ".join("n(" + ", ".join(letters[k:] + letters[:k]) + ")" for k in [3, 1, 7, 0, 2, 4, 6, 5])
        self.check_same("; ".join([f"{head} if {body}"] * 12), "; ".join([f"{head} if {turned}"] * 12), *KINDS)
        self.check_same("; ".join([f"{head} if {body}"] * 12), "; ".join([f"{head} if {turned}"] * 11), *HALF_KINDS)
        other = " and ".join("n(" + ", ".join(letters[k:] + letters[:k]) + ")" for k in [3, 1, 7, 0, 2, 4, 6, 6])
        self.check_same("; ".join([f"{head} if {body}"] * 12), f"{head} if {other}")

    def test_other_widths(self):
        texts = ["() if a(x)", "(x) if a(x)", "none 0", "none 1", "none 2", "(3, 3) if true"]
        for text, other_text in itertools.product(texts, repeat=2):
            question, other = read_question(text), read_question(other_text)
            if question[0] != other[0]:
                for kind in KINDS:
                    with self.assertRaises(OtherWidths):
                        compare(kind, question, other)
                    if kind != "all":
                        with self.assertRaises(OtherWidths):
                            within(kind, question, other)

    def test_houses_of_cases(self):
        question, other = read_question("(x) if a(x) and b(x, y)"), read_question("(x) if a(x)")
        for kind in KINDS:
            house, facts, row = compare(kind, question, other)[1]
            self.assertIn(kind, kinds_of(house))
            for name, _, worth in facts:
                self.assertIn(name, ["a", "b"])
                self.assertNotEqual(worth, zero(house))
            self.assertEqual(len(row), 1)
        case = compare("yes", read_question("() if true"), read_question("() if a()"))[1]
        self.assertEqual(plain_worth(case[0], case[1], read_question("() if true"), case[2]), one(case[0]))


if __name__ == "__main__":
    unittest.main()
