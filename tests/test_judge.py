"""Papers and their judge: [26]."""

import itertools
import random
import unittest

from anyworth.comparing import compare, judge, judge_within, within
from anyworth.errors import OtherWidths, WorthError
from anyworth.reading import read_question
from tests.joins import HALF_KINDS, is_good_half, is_good_paper, map_of, some_joins, turned_about
from tests.polynomial import KINDS
from tests.terms import val, var

JUNK = [None, -1, 0, 1, 2, 10 ** 40, "", "x", "var", "A b", (), ((),), ((), ()), (None,), (None, None), (0, ()),
        ((0, ()),), ((0, None),), (0, "x"), ("var", "x"), ((0, ()), (0, ())), (0, (("x", None),)), (0, (("x", ()),)),
        (0, (("x", ("var",)),)), (0, (("x", ("var", "x", "x")),)), (0, (("x", ("var", None)),)), (0, (("x", "xy"),)),
        (0, (("x", ("value", None)),)), (0, (("x", ("value", ())),)), (0, (("x", (None, "x")),)), (0, "xy"), "xy",
        (0, (("x", ("var", 1)),)), (0, ((1, ("var", "x")),)), (0, (((), ("var", "x")),)), ((0, ()), (), None)]


def changed(paper):
    """Return the paper with one thing changed, in all places and several ways."""
    found = list(JUNK)
    if isinstance(paper, int):
        found += [paper - 1, paper + 1, -1 - paper, str(paper), (paper,)]
    elif isinstance(paper, str):
        found += [paper + "a", paper[:-1], paper.upper(), "value", (paper,)]
    elif isinstance(paper, tuple):
        for at, part in enumerate(paper):
            before, behind = paper[:at], paper[at + 1:]
            found += [before + (less,) + behind for less in changed(part)]
            found += [before + behind, before + (part, part) + behind, before + (None,) + paper[at:]]
            found += [behind + before + (part,)]
        found += [(paper,), paper[::-1], paper + ((),), paper + paper]
    return found


class JudgeTest(unittest.TestCase):
    def check(self, kind, text, other_text, paper, expected=True):
        question, other = read_question(text), read_question(other_text)
        self.assertIs(judge(kind, question, other, paper), expected)
        if kind != "all" and isinstance(paper, tuple) and len(paper) == 2:
            both = [judge_within(kind, question, other, paper[0]), judge_within(kind, other, question, paper[1])]
            self.assertIs(all(both), expected)
            self.assertIs(judge(kind, other, question, paper[::-1]), expected)

    def test_all(self):
        text, other = "(x) if e(x, y) and a(y); (3) if true", "(3) if true; (u) if a(v) and e(u, v)"
        paper = ((1, map_of(x="u", y="v")), (0, ()))
        self.check("all", text, other, paper)
        self.check("all", text, other, paper[::-1], False)
        self.check("all", text, other, ((1, map_of(x="u", y="u")), (0, ())), False)
        self.check("all", text, other, ((1, map_of(u="x", v="y")), (0, ())), False)
        self.check("all", other, text, ((1, ()), (0, map_of(u="x", v="y"))))

    def test_all_uses_each_index_once(self):
        twice, paper = "(x) if a(x); (y) if a(y)", ((1, map_of(x="y")), (0, map_of(y="x")))
        self.check("all", twice, twice, paper)
        self.check("all", twice, twice, ((0, map_of(x="x")), (1, map_of(y="y"))))
        self.check("all", twice, twice, ((0, map_of(x="x")), (0, map_of(y="x"))), False)
        self.check("all", twice, twice, ((1, map_of(x="y")), (1, map_of(y="y"))), False)
        self.check("all", twice, "(x) if a(x)", ((0, map_of(x="x")), (0, map_of(y="x"))), False)
        self.check("all", "(x) if a(x)", twice, ((0, map_of(x="x")),), False)
        self.check("all", "(x) if a(x)", twice, ((1, map_of(x="y")),), False)

    def test_all_needs_alike(self):
        self.check("all", "() if a(x)", "() if a(1)", ((0, map_of(x=[1])),), False)
        self.check("all", "() if e(x, y)", "() if e(z, z)", ((0, map_of(x="z", y="z")),), False)
        self.check("all", "() if a(x)", "() if a(x) and b()", ((0, map_of(x="x")),), False)
        self.check("all", "() if a(x) and a(y)", "() if a(x) and a(y)", ((0, map_of(x="y", y="x")),))
        self.check("all", "() if a(x) and a(y)", "() if a(x) and a(y)", ((0, map_of(x="y", y="y")),), False)

    def test_once(self):
        text, other = "() if e(x, x)", "() if e(x, x); () if e(x, y)"
        half = ((0, map_of(x="x")),)
        self.check("once", text, other, (half, ((0, map_of(x="x")), (0, map_of(x="x")))), False)
        more = "() if e(x, y); () if e(z, z)"
        self.check("once", more, "() if e(x, y)", (((0, map_of(x="x", y="y")), (0, map_of(x="z", y="z"))),
                                                   ((0, map_of(x="x", y="y")),)))
        self.check("once", more, "() if e(x, y)", (((0, map_of(x="x", y="y")), (0, map_of(x="z", y="z"))),
                                                   ((1, map_of(z="x")),)), False)
        self.check("once", "() if a(x)", "() if a(x); () if a(y)", (((1, map_of(y="x")),),
                                                                   ((0, map_of(x="x")), (0, map_of(x="y")))))

    def test_once_needs_exact(self):
        text, other = "() if a(x) and a(x)", "() if a(x)"
        self.check("once", text, other, (((0, map_of(x="x")),), ((0, map_of(x="x")),)), False)
        self.check("prices", text, other, (((0, map_of(x="x")),), ((0, map_of(x="x")),)), False)
        self.check("sets", text, other, ((((0, map_of(x="x")),),), (((0, map_of(x="x")),),)))
        self.check("yes", text, other, (((0, map_of(x="x")),), ((0, map_of(x="x")),)))
        question, shorter = read_question(text), read_question(other)
        self.assertIs(judge_within("once", question, shorter, ((0, map_of(x="x")),)), False)
        self.assertIs(judge_within("prices", question, shorter, ((0, map_of(x="x")),)), True)
        self.assertIs(judge_within("prices", shorter, question, ((0, map_of(x="x")),)), False)

    def test_prices(self):
        text, other = "(x) if a(x); (x) if a(x) and b(y)", "(z) if a(z)"
        first = ((0, map_of(z="x")), (0, map_of(z="x")))
        self.check("prices", text, other, (first, ((0, map_of(x="z")),)))
        self.check("once", text, other, (first, ((0, map_of(x="z")),)), False)
        self.check("prices", text, other, (first, ((1, map_of(x="z")),)), False)
        self.check("yes", text, other, (first, ((0, map_of(x="z")),)))

    def test_sets(self):
        together, apart = "() if a(x) and b(y)", "() if a(x); () if b(x)"
        question, other = read_question(together), read_question(apart)
        good = ((0, map_of(x="x")), (1, map_of(x="y")))
        for pairs in [good, good[::-1], good + good, good + good[:1]]:
            self.assertIs(judge_within("sets", question, other, (pairs,)), True)
        for pairs in [(), good[:1], good[1:], good[:1] + good[:1], ((0, map_of(x="x")), (1, map_of(x="x"))),
                      ((0, map_of(x="y")), (1, map_of(x="y"))), good + ((2, map_of(x="x")),), good + (None,),
                      good + ((-1, map_of(x="y")),)]:
            self.assertIs(judge_within("sets", question, other, (pairs,)), False)
        self.assertIs(judge_within("sets", question, other, good), False)
        self.assertIs(judge_within("sets", question, other, (good, good)), False)
        self.assertIs(judge_within("sets", other, question, ((), ())), False)

    def test_yes(self):
        text, other = "(x) if e(x, y) and e(x, z)", "(x) if e(x, y)"
        paper = (((0, map_of(x="x", y="z")),), ((0, map_of(x="x", y="y", z="y")),))
        for kind in KINDS:
            self.check(kind, text, other, paper, kind == "yes")
        self.check("sets", text, other, ((((0, map_of(x="x", y="z")), (0, map_of(x="x", y="y"))),), (paper[1],)))
        self.check("sets", text, other, ((((0, map_of(x="x", y="z")),),), (paper[1],)), False)

    def test_questions_without_joins(self):
        for width in [0, 1, 8]:
            question = (width, ())
            for kind in KINDS:
                good = () if kind == "all" else ((), ())
                self.assertIs(judge(kind, question, question, good), True)
                for paper in JUNK:
                    self.assertIs(judge(kind, question, question, paper), paper == good)
                    if kind != "all":
                        self.assertIs(judge_within(kind, question, question, paper), paper == ())

    def test_no_join_is_within_every_question(self):
        question, other = (1, ()), read_question("(x) if a(x)")
        for kind in HALF_KINDS:
            self.assertIs(judge_within(kind, question, other, ()), True)
            self.assertIs(judge(kind, question, other, ((), ())), False)
            self.assertIs(judge(kind, question, other, ((), ((),))), False)
            for paper in JUNK:
                self.assertIs(judge_within(kind, other, question, paper), False)

    def test_empty_bodies(self):
        text = "(3) if true; (3) if true"
        self.check("all", text, text, ((1, ()), (0, ())))
        self.check("all", text, text, ((0, ()), (0, ())), False)
        for kind in ["once", "prices", "yes"]:
            self.check(kind, text, text, (((1, ()), (1, ())), ((0, ()), (0, ()))))
            self.check(kind, text, "(3) if true", (((0, ()), (0, ())), ((1, ()),)))
            self.check(kind, text, "(4) if true", (((0, ()), (0, ())), ((1, ()),)), False)
        self.check("sets", text, text, ((((1, ()),), ((1, ()), (0, ()))), (((0, ()),), ((0, ()),))))
        self.check("sets", text, text, (((), ((1, ()), (0, ()))), (((0, ()),), ((0, ()),))), False)

    def check_changed(self, kind, question, other, paper):
        """Check the paper, and the paper with one thing changed, against the words of the document."""
        self.assertIs(judge(kind, question, other, paper), True)
        for less in changed(paper):
            self.assertIs(judge(kind, question, other, less), is_good_paper(kind, question, other, less), less)
        if kind != "all":
            for less in changed(paper[0]):
                expected = is_good_half(kind, question, other, less)
                self.assertIs(judge_within(kind, question, other, less), expected, less)

    def test_one_thing_changed(self):
        pairs = [
            ("(x) if e(x, y) and a(y); (3) if true", "(3) if true; (u) if a(v) and e(u, v)"),
            ('(x) if a(x); (1) if b("x")', '(1) if b("x"); (y) if a(y)'),
            ("() if a(x); () if a(y)", "() if a(x); () if a(y)"),
            ("(x) if e(x, y) and e(y, x)", "(y) if e(x, y) and e(y, x)"),
            ("() if true", "() if true"),
        ]
        for (text, other_text), kind in itertools.product(pairs, KINDS):
            question, other = read_question(text), read_question(other_text)
            self.check_changed(kind, question, other, compare(kind, question, other)[1])

    def test_one_thing_changed_in_some_papers(self):
        chance = random.Random(28)
        checked = dict.fromkeys(KINDS, 0)
        for kind in KINDS * 8:
            question = some_joins(chance, 1, chance.randrange(1, 3), variables="xy")
            other = turned_about(chance, question)
            if chance.randrange(2) and kind != "all":
                other = (1, other[1] + some_joins(chance, 1, 1, variables="xy")[1])
            answer, paper = compare(kind, question, other)
            if answer == "same":
                self.check_changed(kind, question, other, paper)
                checked[kind] += 1
        self.assertGreater(min(checked.values()), 2)

    def test_the_paper_of_another_kind(self):
        chance = random.Random(29)
        for _ in range(60):
            question = some_joins(chance, 1, chance.randrange(3), variables="xy")
            other = turned_about(chance, question)
            for kind, told in itertools.product(KINDS, repeat=2):
                paper = compare(told, question, other)[1]
                self.assertIs(judge(kind, question, other, paper), is_good_paper(kind, question, other, paper))
                if kind != "all" and told != "all":
                    half = paper[0]
                    self.assertIs(judge_within(kind, question, other, half), is_good_half(kind, question, other, half))
                    self.assertIs(judge_within(kind, question, other, paper),
                                  is_good_half(kind, question, other, paper))

    def test_deep_papers(self):
        question = read_question("(x) if a(x)")
        deep = ()
        for _ in range(100):
            deep = (deep,)
        deeper = [deep, (deep, deep), ((deep,), (deep,)), ((0, deep),), (((0, deep),), ((0, deep),)),
                  (((0, (("x", deep),)),), ()), ((0, (("x", ("var", deep)),)),), ((0, ((deep, ("var", "x")),)),),
                  ((deep, map_of(x="x")),), ((((deep, map_of(x="x")),),), ())]
        for kind, paper in itertools.product(KINDS, deeper):
            self.assertIs(judge(kind, question, question, paper), False)
            if kind != "all":
                self.assertIs(judge_within(kind, question, question, paper), False)

    def test_terms_of_another_form(self):
        question = read_question('(x) if e(x, 1) and f("y")')
        for term, expected in [(var("x"), True), (val("x"), False), (("var", 1), False), (("value", None), False),
                               (("value", "x", "x"), False), (("x", "var"), False), ("x", False), (None, False)]:
            paper = ((0, (("x", term),)),)
            self.assertIs(judge("all", question, question, paper), expected)
            for kind in ["once", "prices", "yes"]:
                self.assertIs(judge_within(kind, question, question, paper), expected)

    def test_other_widths(self):
        texts = ["() if a(x)", "(x) if a(x)", "none 2", "(3, 3, 3) if true"]
        for text, other_text in itertools.permutations(texts, 2):
            question, other = read_question(text), read_question(other_text)
            for kind, paper in itertools.product(KINDS, JUNK):
                with self.assertRaises(OtherWidths) as caught:
                    judge(kind, question, other, paper)
                self.assertIsInstance(caught.exception, WorthError)
                if kind != "all":
                    with self.assertRaises(OtherWidths):
                        judge_within(kind, question, other, paper)

    def test_half_papers_of_within(self):
        texts = ["(x) if a(x); (x) if b(x)", "(x) if a(x)", "(x) if a(x) and b(x)", "(x) if a(x) and a(x)", "none 1",
                 "(x) if a(x) and b(y)", "(1) if true"]
        for text, other_text in itertools.product(texts, repeat=2):
            question, other = read_question(text), read_question(other_text)
            for kind in HALF_KINDS:
                answer, paper = within(kind, question, other)
                self.assertIs(judge_within(kind, question, other, paper), answer == "within")


if __name__ == "__main__":
    unittest.main()
