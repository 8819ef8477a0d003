"""Matchings, their order and their images: [17], [24]."""

import copy
import itertools
import random
import unittest

from anyworth.matching import image, is_matching, matchings
from tests.joins import join_of, map_of, plain_matchings, put_all, some_join
from tests.terms import NO_WORDS, val, var


class MatchingsTest(unittest.TestCase):
    def check(self, text, other_text, *expected):
        """Check the whole list, and the map and the image of each of its matchings."""
        join, other = join_of(text), join_of(other_text)
        found = matchings(join, other)
        self.assertEqual(found, list(expected))
        self.assertIs(type(found), list)
        for mapping in found:
            self.assertIs(type(mapping), tuple)
            self.assertIs(is_matching(join, other, mapping), True)
            self.assertEqual(image(join, mapping), put_all(join[1], dict(mapping)))

    def test_one_variable(self):
        self.check("(x) if a(x)", "(y) if a(y)", map_of(x="y"))
        self.check("() if a(x)", "() if a(y) and a(z)", map_of(x="y"), map_of(x="z"))
        self.check("(x) if a(x)", "(z) if a(y) and a(z)", map_of(x="z"))
        self.check("() if a(x)", "() if b(x)")
        self.check("() if a(x)", "() if a(x, x)")
        self.check("() if a(x)", "() if a()")

    def test_the_same_names_of_variables(self):
        self.check("() if e(x, y)", "() if e(y, x)", map_of(x="y", y="x"))
        self.check("(x) if e(x, y)", "(y) if e(x, y) and e(y, x)", map_of(x="y", y="x"))
        self.check("() if e(x, y) and e(y, z)", "() if e(y, x) and e(x, y)",
                   map_of(x="x", y="y", z="x"), map_of(x="y", y="x", z="y"))

    def test_several_atoms(self):
        self.check("(x, z) if e(x, y) and e(y, z)", "(x, x) if e(x, y) and e(y, x)", map_of(x="x", y="y", z="x"))
        self.check("(x) if e(x, y) and e(x, z)", "(x) if e(x, y)", map_of(x="x", y="y", z="y"))
        self.check("(x) if e(x, y)", "(x) if e(x, y) and e(x, z)", map_of(x="x", y="y"), map_of(x="x", y="z"))
        self.check("() if e(x, y) and e(y, x)", "() if e(x, y) and e(y, z)")
        self.check("() if a(x) and b(y)", "() if a(u) and a(v) and b(u) and b(w)", map_of(x="u", y="u"),
                   map_of(x="u", y="w"), map_of(x="v", y="u"), map_of(x="v", y="w"))

    def test_all_of_a_triangle(self):
        triangle = "() if e(x, y) and e(y, z) and e(z, x)"
        self.check(triangle, triangle, map_of(x="x", y="y", z="z"), map_of(x="y", y="z", z="x"),
                   map_of(x="z", y="x", z="y"))
        self.check(triangle, "() if e(x, y) and e(y, x)")
        self.check(triangle, "() if e(x, x)", map_of(x="x", y="x", z="x"))

    def test_the_order(self):
        self.check("() if a(x)", '() if a(z) and a("b") and a(7) and a("ab") and a(-3) and a(y) and a("a") and a(10)',
                   map_of(x=[-3]), map_of(x=[7]), map_of(x=[10]), map_of(x=["a"]), map_of(x=["ab"]), map_of(x=["b"]),
                   map_of(x="y"), map_of(x="z"))
        self.check("() if a(x)", '() if a(a) and a("z") and a(aa) and a(b) and a(-1)', map_of(x=[-1]), map_of(x=["z"]),
                   map_of(x="a"), map_of(x="aa"), map_of(x="b"))
        # The term of the variable that comes first counts first, not the order of the body.
        self.check("() if a(y) and a(x)", '() if a(1) and a(u)', map_of(x=[1], y=[1]), map_of(x=[1], y="u"),
                   map_of(x="u", y=[1]), map_of(x="u", y="u"))
        self.check("() if a(b) and a(aa)", '() if a(1) and a("w")', map_of(aa=[1], b=[1]), map_of(aa=[1], b=["w"]),
                   map_of(aa=["w"], b=[1]), map_of(aa=["w"], b=["w"]))

    def test_heads_that_do_not_agree(self):
        self.check("(x, x) if a(x)", "(x, y) if a(x) and a(y)")
        self.check("(x, y) if a(x) and a(y)", "(x, x) if a(x)", map_of(x="x", y="x"))
        self.check("(1) if a(x)", "(2) if a(x)")
        self.check('(1) if a(x)', '("a") if a(x)')
        self.check("(1) if a(x)", "(y) if a(y)")
        self.check("(x) if a(x)", "(1) if a(x)")
        self.check("(x) if a(x)", "(1) if a(1)", map_of(x=[1]))
        self.check('("x") if a(x)', "(x) if a(x)")
        self.check('(1, "a", x) if a(x)', '(1, "a", y) if a(y)', map_of(x="y"))
        self.check("(x, y) if a(x) and a(y)", "(y, z) if a(y) and b(z)")

    def test_values_in_atoms(self):
        self.check("() if a(1, x)", '() if a(1, y) and a(2, z) and a(u, v) and a(1, "a")', map_of(x=["a"]),
                   map_of(x="y"))
        self.check("() if a(x)", "() if a(1)", map_of(x=[1]))
        self.check("() if a(1)", "() if a(x)")
        self.check('() if a("x")', "() if a(x)")
        self.check("() if a(x, x)", "() if a(1, 2) and a(3, 3)", map_of(x=[3]))
        self.check('() if a(x, "b")', '() if a("b", x) and a(x, "b")', map_of(x="x"))

    def test_the_same_atom_several_times(self):
        self.check("() if a(x)", "() if a(y) and a(y) and a(y)", map_of(x="y"))
        self.check("() if a(x) and a(x) and a(x)", "() if a(y) and a(z)", map_of(x="y"), map_of(x="z"))
        self.check("() if a(x) and a(x)", "() if a(y)", map_of(x="y"))

    def test_no_variables(self):
        self.check("() if a()", "() if a()", ())
        self.check("() if a()", "() if b() and a() and c(x)", ())
        self.check("() if a() and a()", "() if a()", ())
        self.check('(1, "a") if a(2)', '(1, "a") if a(2) and b(x)', ())
        self.check("() if a()", "() if b()")
        self.check("(1) if a()", "(2) if a()")
        self.check("() if a() and b()", "() if a()")

    def test_empty_bodies(self):
        self.check("() if true", "() if true", ())
        self.check("() if true", "() if a(x) and b()", ())
        self.check("(1) if true", "(1) if a(x)", ())
        self.check("(1) if true", "(2) if true")
        self.check("(1) if true", "(x) if a(x)")
        self.check("() if a()", "() if true")
        self.check("() if a(x)", "() if true")

    def test_against_all_maps(self):
        chance = random.Random(24)
        found = 0
        for _ in range(1500):
            width = chance.randrange(3)
            join, other = some_join(chance, width), some_join(chance, width, most=5)
            expected = plain_matchings(join, other)
            self.assertEqual(matchings(join, other), expected)
            found += len(expected)
        self.assertGreater(found, 500)

    def test_against_all_maps_of_one_name(self):
        chance = random.Random(25)
        for _ in range(400):
            join, other = some_join(chance, 0, names="q", most=8), some_join(chance, 0, names="q", most=8)
            self.assertEqual(matchings(join, other), plain_matchings(join, other))

    def test_eight_atoms_of_one_name(self):
        path = join_of("() if " + " and ".join(f"e({x}, {y})" for x, y in zip("abcdefgh", "bcdefghi")))
        cycle = join_of("() if " + " and ".join(f"e({x}, {y})" for x, y in zip("abcdefgh", "bcdefgha")))
        self.assertEqual(matchings(path, path), [tuple((x, var(x)) for x in "abcdefghi")])
        letters = "abcdefgh" * 3
        turns = [letters[k:k + 9] for k in range(8)]
        self.assertEqual(matchings(path, cycle), [tuple(zip("abcdefghi", map(var, turn))) for turn in turns])
        self.assertEqual(matchings(cycle, path), [])
        self.assertEqual(matchings(cycle, cycle), [tuple(zip("abcdefgh", map(var, turn[:8]))) for turn in turns])

    def test_many_matchings(self):
        four = join_of("() if " + " and ".join(f"e({x}, {y})" for x, y in zip("abcd", "efgh")))
        eight = join_of("() if " + " and ".join(f"e({x}, {y})" for x, y in zip("abcdefgh", "ijklmnop")))
        found = matchings(four, eight)
        self.assertEqual(len(found), 8 ** 4)
        self.assertEqual(found, sorted(found))
        self.assertEqual(len(set(found)), 8 ** 4)
        rows = [", ".join(x + y for y in "stuvwxyz") for x in "abcdefgh"]
        wide = join_of("() if " + " and ".join(f"n({row})" for row in rows))
        loop = join_of("() if n(1, 2, 3, 4, 5, 6, 7, 8)")
        (mapping,) = matchings(wide, loop)
        self.assertEqual(mapping, tuple((x + y, val(at + 1)) for x in "abcdefgh" for at, y in enumerate("stuvwxyz")))
        self.assertEqual(matchings(wide, join_of("() if n(1, 2, 3, 4, 5, 6, 7)")), [])

    def test_few_of_many_maps(self):
        # Each of the 8 atoms has 8 targets, but the last atom is left without one.
        star = "() if " + " and ".join(f"e(x, {y})" for y in "abcdefgh")
        self.assertEqual(matchings(join_of(star[:-len(" and e(x, h)")] + " and f(x)"), join_of(star)), [])
        self.assertEqual(matchings(join_of(star), join_of("() if e(x, y)")), [tuple((x, var("y")) for x in "abcdefgh")
                                                                                + (("x", var("x")),)])

    def test_the_list_is_the_callers_own(self):
        join, other = join_of("() if a(x)"), join_of("() if a(y) and a(z)")
        found = matchings(join, other)
        found.clear()
        self.assertEqual(matchings(join, other), [map_of(x="y"), map_of(x="z")])


class IsMatchingTest(unittest.TestCase):
    JOIN = join_of("(x) if e(x, y) and e(y, z)")
    OTHER = join_of("(a) if e(a, b) and e(b, a) and e(b, 3) and f(c)")
    GOOD = map_of(x="a", y="b", z=[3])

    def check(self, mapping, expected):
        self.assertIs(is_matching(self.JOIN, self.OTHER, mapping), expected)

    def test_matchings(self):
        self.check(self.GOOD, True)
        self.check(map_of(x="a", y="b", z="a"), True)

    def test_pairs_more_or_less(self):
        self.check((), False)
        for at in range(3):
            self.check(self.GOOD[:at] + self.GOOD[at + 1:], False)
            self.check(self.GOOD[:at] + self.GOOD[at:at + 1] + self.GOOD[at:], False)
        for name in ["a", "b", "w", "xx", "zz"]:
            more = tuple(sorted(self.GOOD + ((name, var("a")),)))
            self.check(more, False)
            self.check(self.GOOD + ((name, val(3)),), False)

    def test_pairs_out_of_order(self):
        for mapping in itertools.permutations(self.GOOD):
            self.check(mapping, mapping == self.GOOD)

    def test_a_variable_twice_with_other_terms(self):
        self.check((("x", var("b")),) + self.GOOD, False)
        self.check(self.GOOD[:1] + (("x", var("b")),) + self.GOOD[1:], False)
        self.check(self.GOOD + (("z", var("a")),), False)

    def test_other_terms(self):
        for at, (name, good) in enumerate(self.GOOD):
            for term in [var("a"), var("b"), var("c"), var("x"), var("z"), val("a"), val("b"), val(3), val("c"),
                         val(-3),
                         val(4), var("aa")]:
                mapping = self.GOOD[:at] + ((name, term),) + self.GOOD[at + 1:]
                self.check(mapping, term == good or mapping == map_of(x="a", y="b", z="a"))

    def test_strange_strings(self):
        for text in NO_WORDS:
            self.check(((text, var("a")),), False)
            self.check(self.GOOD + ((text, var("a")),), False)
            for at, (name, _) in enumerate(self.GOOD):
                self.check(self.GOOD[:at] + ((text, var("a")),) + self.GOOD[at + 1:], False)
                for term in [var(text), val(text)]:
                    self.check(self.GOOD[:at] + ((name, term),) + self.GOOD[at + 1:], False)

    def test_no_variables(self):
        closed = join_of("(1) if a(2)")
        self.assertIs(is_matching(closed, join_of("(1) if a(2) and b(x)"), ()), True)
        self.assertIs(is_matching(closed, join_of("(1) if b(x)"), ()), False)
        self.assertIs(is_matching(closed, join_of("(2) if a(2)"), ()), False)
        self.assertIs(is_matching(closed, join_of("(1) if a(2) and b(x)"), map_of(x="x")), False)
        empty = join_of("(1) if true")
        self.assertIs(is_matching(empty, empty, ()), True)
        self.assertIs(is_matching(empty, join_of("(1) if a()"), ()), True)
        self.assertIs(is_matching(empty, join_of("(1) if a()"), map_of(x=[1])), False)
        self.assertIs(is_matching(join_of("(1) if a(x)"), empty, ()), False)

    def test_all_maps_of_small_joins(self):
        chance = random.Random(26)
        terms = [var("x"), var("y"), var("w"), val(1), val("a")]
        for _ in range(300):
            width = chance.randrange(2)
            join, other = some_join(chance, width, variables="xy"), some_join(chance, width, variables="xy")
            good = plain_matchings(join, other)
            names = [(), ("x",), ("y",), ("x", "y"), ("y", "x"), ("x", "x"), ("w", "x")]
            for told in names:
                for chosen in itertools.product(terms, repeat=len(told)):
                    mapping = tuple(zip(told, chosen))
                    self.assertIs(is_matching(join, other, mapping), mapping in good)


class ImageTest(unittest.TestCase):
    def test_the_order_of_the_body(self):
        join = join_of('(x) if e(x, y) and a(3) and b("x") and e(y, x) and c()')
        expected = (("e", (val(4), var("y"))), ("a", (val(3),)), ("b", (val("x"),)), ("e", (var("y"), val(4))),
                    ("c", ()))
        self.assertEqual(image(join, map_of(x=[4], y="y")), expected)
        expected = (("e", (var("y"), var("x"))), ("a", (val(3),)), ("b", (val("x"),)), ("e", (var("x"), var("y"))),
                    ("c", ()))
        self.assertEqual(image(join, map_of(x="y", y="x")), expected)

    def test_an_atom_several_times(self):
        join = join_of("() if a(x) and b(y) and a(x) and a(y)")
        self.assertEqual(image(join, map_of(x="u", y="u")), (("a", (var("u"),)), ("b", (var("u"),)), ("a", (var("u"),)),
                                                             ("a", (var("u"),))))

    def test_no_variables(self):
        self.assertEqual(image(join_of("(1) if true"), ()), ())
        self.assertEqual(image(join_of("(1) if a() and a()"), ()), (("a", ()), ("a", ())))

    def test_a_map_that_is_no_matching(self):
        self.assertEqual(image(join_of("(x) if a(x)"), map_of(x="zz")), (("a", (var("zz"),)),))

    def test_nothing_is_changed(self):
        join, mapping = join_of("(x) if a(x, y)"), map_of(x="u", y=[1])
        before = copy.deepcopy((join, mapping))
        image(join, mapping)
        matchings(join, join)
        is_matching(join, join, mapping)
        self.assertEqual((join, mapping), before)


if __name__ == "__main__":
    unittest.main()
