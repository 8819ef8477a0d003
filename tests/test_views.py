"""Views, expanded questions and stores with views: [40], [42]."""

import copy
import itertools
import random
import unittest

from anyworth.comparing import compare
from anyworth.errors import NoQuestion
from anyworth.plainly import plain_answers
from anyworth.questions import check_question
from anyworth.reading import read_question
from anyworth.views import expanded, with_views
from tests.joins import some_join, some_term
from tests.samples import WORTHS
from tests.terms import val

COUNTS = ("counts",)
SMALL = {house: [worth for worth in worths if len(str(worth)) < 200] for house, worths in WORTHS.items()}
WAYS = read_question("(x, z) if road(x, y) and road(y, z)")


def views_of(**texts):
    return tuple((name, read_question(text)) for name, text in texts.items())


class ExpandedTest(unittest.TestCase):
    def check(self, text, views, expected):
        """Check the expanded question up to the names of variables and the order of its joins."""
        question = read_question(text)
        before = copy.deepcopy((question, views))
        found = expanded(question, views)
        self.assertEqual((question, views), before)
        self.assertIsNone(check_question(found))
        answer, paper = compare("all", found, read_question(expected))
        self.assertEqual(answer, "same", found)
        # The joins stand in the told order where no two of them are alike.
        self.assertEqual([at for at, _ in paper], list(range(len(paper))))
        for (_, body), (_, other) in zip(found[1], read_question(expected)[1]):
            self.assertEqual([name for name, _ in body], [name for name, _ in other])

    def test_one_view(self):
        views = (("way", WAYS),)
        self.check("(x, z) if way(x, z)", views, "(x, z) if road(x, y) and road(y, z)")
        self.check("(x) if way(x, x)", views, "(x) if road(x, y) and road(y, x)")
        self.check('(x) if way(x, "c")', views, '(x) if road(x, y) and road(y, "c")')
        self.check('("c") if way("c", 3)', views, '("c") if road("c", y) and road(y, 3)')
        self.check("(y) if way(y, x)", views, "(y) if road(y, b) and road(b, x)")

    def test_other_atoms_stay(self):
        views = (("way", WAYS),)
        self.check("(x) if a(x) and way(x, y) and b(y)", views, "(x) if a(x) and road(x, u) and road(u, y) and b(y)")
        self.check("(x) if a(x) and b(x, 1) and a(x)", views, "(x) if a(x) and b(x, 1) and a(x)")
        self.check("(1) if true", views, "(1) if true")
        self.check("none 3", views, "none 3")

    def test_the_same_view_several_times(self):
        views = (("way", WAYS),)
        self.check("(x, z) if way(x, y) and way(y, z)", views,
                   "(x, z) if road(x, a) and road(a, y) and road(y, b) and road(b, z)")
        self.check("(x) if way(x, y) and way(x, y)", views,
                   "(x) if road(x, a) and road(a, y) and road(x, b) and road(b, y)")
        self.check("(x) if way(x, x) and way(x, x) and way(x, x)", views,
                   "(x) if road(x, a) and road(a, x) and road(x, b) and road(b, x) and road(x, c) and road(c, x)")

    def test_the_same_names_of_variables(self):
        views = views_of(v="(y) if e(y, x)")
        self.check("(x) if v(x) and f(x, y)", views, "(x) if e(x, z) and f(x, y)")
        self.check("(x, y) if v(y) and v(x)", views, "(x, y) if e(y, a) and e(x, b)")
        views = views_of(v="(x, xa) if e(x, xa, xaa) and f(y)")
        self.check("(x, xa) if v(xa, x) and g(xaa, xb)", views, "(x, y) if e(y, x, a) and f(b) and g(c, d)")
        self.check("(x) if v(x, xa) and v(xa, xaa) and v(xaa, x)", views,
                   "(x) if e(x, y, a) and f(b) and e(y, z, c) and f(d) and e(z, x, g) and f(h)")

    def test_several_joins(self):
        views = views_of(v="(x) if a(x); (x) if b(x, y)", w="(x) if c(x); (1) if true; (x) if b(x, x)")
        self.check("(x) if v(x)", views, "(x) if a(x); (x) if b(x, y)")
        self.check("(x) if v(x) and w(y)", views,
                   "(x) if a(x) and c(y); (x) if a(x); (x) if a(x) and b(y, y);"
                   "(x) if b(x, z) and c(y); (x) if b(x, z); (x) if b(x, z) and b(y, y)")
        self.check("(x) if w(x) and v(y)", views,
                   "(x) if c(x) and a(y); (x) if c(x) and b(y, z); (1) if a(y); (1) if b(y, z);"
                   "(x) if b(x, x) and a(y); (x) if b(x, x) and b(y, z)")
        self.check("(x) if v(x) and d(y) and v(y); (y) if w(y)", views,
                   "(x) if a(x) and d(y) and a(y); (x) if a(x) and d(y) and b(y, z); (x) if b(x, z) and d(y) and a(y);"
                   "(x) if b(x, z) and d(y) and b(y, u); (x) if c(x); (1) if true; (x) if b(x, x)")

    def test_the_order_of_choices_is_not_that_of_the_search(self):
        # The second atom has fewer joins, but the choice for the first one counts first.
        views = views_of(v="(x) if a(x); (x) if b(x); (x) if c(x)", w="(x) if d(x); (x) if e(x)")
        self.check("() if v(x) and w(y)", views, "() if a(x) and d(y); () if a(x) and e(y); () if b(x) and d(y);"
                   "() if b(x) and e(y); () if c(x) and d(y); () if c(x) and e(y)")
        self.check("() if w(y) and v(x)", views, "() if d(y) and a(x); () if d(y) and b(x); () if d(y) and c(x);"
                   "() if e(y) and a(x); () if e(y) and b(x); () if e(y) and c(x)")

    def test_values_in_heads(self):
        views = views_of(v='(1, x) if a(x); (2, x) if b(x); (x, "c") if c(x)')
        self.check("(x) if v(1, x)", views, '(x) if a(x); ("c") if c(1)')
        self.check("(x, y) if v(x, y)", views, '(1, y) if a(y); (2, y) if b(y); (x, "c") if c(x)')
        self.check("(x) if v(x, x)", views, '(1) if a(1); (2) if b(2); ("c") if c("c")')
        self.check("(x) if v(x, y) and d(x, y)", views, '(1) if a(y) and d(1, y); (2) if b(y) and d(2, y);'
                   '(x) if c(x) and d(x, "c")')
        self.check("(x, y) if v(x, y) and v(y, x)", views, '(1, 1) if a(1) and a(1); (1, 2) if a(2) and b(1);'
                   '(2, 1) if b(1) and a(2); (2, 2) if b(2) and b(2);("c", "c") if c("c") and c("c")')
        self.check("() if v(3, 4)", views, "none 0")
        self.check("(3) if v(5, 4); (x) if e(x)", views, "(x) if e(x)")

    def test_variables_that_stand_twice_in_heads(self):
        views = views_of(v="(x, x) if a(x)", w="(x, y, x) if e(x, y)")
        self.check("(x, y) if v(x, y)", views, "(x, x) if a(x)")
        self.check("(x, y) if v(x, y) and b(y) and b(x)", views, "(x, x) if a(x) and b(x) and b(x)")
        self.check("(x) if v(x, 3)", views, "(3) if a(3)")
        self.check("() if v(4, 3)", views, "none 0")
        self.check("(x, y, z) if w(x, y, z) and v(y, z)", views, "(x, x, x) if e(x, x) and a(x)")
        self.check("(x) if w(x, y, 1) and f(y, x)", views, "(1) if e(1, y) and f(y, 1)")
        self.check("(x, y, z, u) if v(x, y) and v(y, z) and v(z, u)", views, "(x, x, x, x) if a(x) and a(x) and a(x)")

    def test_empty_bodies_and_no_joins(self):
        views = views_of(v="(1) if true; (1) if true", w="none 1", u="() if true")
        self.check("(x) if v(x)", views, "(1) if true; (1) if true")
        self.check("(x) if v(x) and a(x)", views, "(1) if a(1); (1) if a(1)")
        self.check("(x) if v(x) and w(x)", views, "none 1")
        self.check("(x) if w(x); (x) if a(x)", views, "(x) if a(x)")
        self.check("() if u() and u()", views, "() if true")
        self.check("() if v(2)", views, "none 0")

    def test_another_number_of_terms(self):
        views = views_of(v="(x) if a(x); (x) if b(x)", u="() if c(x)")
        self.check("(x) if v(x, x)", views, "none 1")
        self.check("() if v()", views, "none 0")
        self.check("(x) if v(x) and v(x, x)", views, "none 1")
        self.check("(x) if u(x); (x) if v(x); (x) if v(x) and u(x)", views, "(x) if a(x); (x) if b(x)")
        self.check("() if u() and v(x, 1)", views, "none 0")

    def test_no_views(self):
        for text in ["(x) if a(x, y) and b(y)", "none 4", "(1) if true; (x) if a(x)"]:
            self.assertEqual(expanded(read_question(text), ()), read_question(text))
        views = views_of(v="(x) if a(x)")
        self.assertEqual(expanded(read_question("(x) if a(x, y) and b(y)"), views),
                         read_question("(x) if a(x, y) and b(y)"))

    def test_the_example_of_the_document(self):
        found = expanded(read_question('(x) if way(x, "c")'), (("way", WAYS),))
        self.assertEqual(found[1][0][1][1][1][1], ("value", "c"))

    def test_few_of_many_choices(self):
        # 12 joins for each of 8 atoms, and one choice that can be unified.
        twelve = "; ".join(f"({k}, x) if a(x)" for k in range(12))
        last = "(11, 10, 9, 8, 7, 6, 5) if b()"
        body = " and ".join(f"v({x}, y)" for x in "stuvwxz")
        views = views_of(v=twelve, w=last)
        self.check(f"(y) if {body} and w(s, t, u, v, w, x, z)", views,
                   "(y) if " + " and ".join(["a(y)"] * 7) + " and b()")
        self.check(f"(y) if {body} and w(s, t, u, v, w, x)", views, "none 1")
        self.check(f"(y) if {body} and w(s, s, u, v, w, x, z)", views, "none 1")
        body = " and ".join(f"v({k}, y)" for k in range(8))
        self.check(f"(y) if {body}", views, "(y) if " + " and ".join(["a(y)"] * 8))

    def test_the_greatest_numbers(self):
        letters = "abcdefgh"
        head = ", ".join(letters)
        views = views_of(v=f"({head}) if " + f"n({head})")
        body = " and ".join("v(" + ", ".join(x + y for y in letters) + ")" for x in letters)
        found = " and ".join("n(" + ", ".join(x + y for y in letters) + ")" for x in letters)
        self.check("; ".join([f"(aa) if {body}"] * 12), views, "; ".join([f"(aa) if {found}"] * 12))


class AnswersTest(unittest.TestCase):
    def some_views(self, chance):
        """Return two views over the names p and q, each with one or two joins."""
        views = []
        for name in "vw":
            width = chance.randrange(3)
            joins = tuple(some_join(chance, width, most=2) for _ in range(chance.randrange(1, 3)))
            views.append((name, (width, joins)))
        return tuple(views)

    def some_question(self, chance, views):
        """Return a question over the names p, q and those of the views."""
        widths = {"p": 1, "q": 2, **{name: question[0] for name, question in views}}
        body = []
        for _ in range(chance.randrange(4)):
            name = chance.choice("vvwwpq")
            many = widths[name] if chance.randrange(8) else chance.randrange(3)
            body.append((name, tuple(some_term(chance) for _ in range(many))))
        told = [term for _, terms in body for term in terms] + [val(1)]
        width = chance.randrange(3)
        return (width, ((tuple(chance.choice(told) for _ in range(width)), tuple(body)),))

    def test_the_answers_are_those_over_the_store_with_views(self):
        chance = random.Random(61)
        found = 0
        for house, worths in SMALL.items():
            for _ in range(30):
                views = self.some_views(chance)
                question = self.some_question(chance, views)
                facts = [(name, tuple(chance.choice([1, 2, "a"]) for _ in range(2 if name == "q" else 1)),
                          chance.choice(worths))
                         for name in "ppqqqvw"]
                whole = expanded(question, views)
                try:
                    check_question(whole)
                except NoQuestion:
                    continue
                answers = plain_answers(house, facts, whole)
                self.assertEqual(answers, plain_answers(house, with_views(house, facts, views), question))
                found += len(answers)
        self.assertGreater(found, 300)


class WithViewsTest(unittest.TestCase):
    FACTS = [("v", (1,), 100), ("a", (2,), 2), ("b", (1,), 3), ("w", (), 100), ("a", (1,), 5), ("v", (2, 2), 100),
             ("a", (2,), 7)]

    def test_the_order(self):
        views = views_of(w="(x, x) if a(x)", v="(x) if b(x); (y) if a(y)")
        before = list(self.FACTS)
        self.assertEqual(with_views(COUNTS, self.FACTS, views), [
            ("a", (2,), 2), ("b", (1,), 3), ("a", (1,), 5), ("a", (2,), 7),
            ("w", (1, 1), 5), ("w", (2, 2), 9), ("v", (1,), 8), ("v", (2,), 9),
        ])
        self.assertEqual(self.FACTS, before)

    def test_no_views(self):
        found = with_views(COUNTS, self.FACTS, ())
        self.assertEqual(found, self.FACTS)
        found.clear()
        self.assertEqual(len(self.FACTS), 7)

    def test_views_without_answers(self):
        views = views_of(w="(x) if c(x)", z="none 2", y="(x) if a(x) and b(x) and c(x)")
        self.assertEqual(with_views(COUNTS, self.FACTS, views), [fact for fact in self.FACTS if fact[0] != "w"])

    def test_views_without_facts(self):
        views = views_of(v='("a", 1) if true', w="(x) if a(x)")
        self.assertEqual(with_views(("least",), [], views), [("v", ("a", 1), 0)])

    def test_rows_in_ascending_order(self):
        facts = [("a", row, 1) for row in [("b",), (10,), ("a",), (9,), (-1,), ("aa",)]]
        views = views_of(v="(x) if a(x)")
        self.assertEqual([row for name, row, _ in with_views(COUNTS, facts, views) if name == "v"],
                         [(-1,), (9,), (10,), ("a",), ("aa",), ("b",)])

    def test_houses_of_every_form(self):
        question = read_question("(x) if a(x); (2) if b()")
        for house, worths in SMALL.items():
            for worth, other in itertools.product(worths[:3], repeat=2):
                facts = [("a", (1,), worth), ("a", (2,), other), ("b", (), worth)]
                answers = plain_answers(house, facts, question)
                expected = facts + [("v", row, told) for row, told in answers]
                self.assertEqual(with_views(house, facts, (("v", question),)), expected)


if __name__ == "__main__":
    unittest.main()
