"""Which matchings are exact, a part or alike, and what covers a join: [25]."""

import random
import unittest

from anyworth.matching import covers, fits, image, matchings
from tests.joins import join_of, map_of, plainly_fits, some_join
from tests.polynomial import KINDS
from tests.terms import var


class FitsTest(unittest.TestCase):
    def check(self, text, other_text, mapping, *expected):
        """Check that the matching fits the kinds that are told, and no other one."""
        join, other = join_of(text), join_of(other_text)
        self.assertIn(mapping, matchings(join, other))
        for kind in KINDS:
            with self.subTest(kind=kind):
                self.assertIs(fits(kind, join, other, mapping), kind in expected + ("sets", "yes"))

    def test_alike(self):
        self.check("(x) if e(x, y)", "(y) if e(y, x)", map_of(x="y", y="x"), "all", "once", "prices")
        self.check("(x) if a(x) and e(x, y)", "(u) if e(u, v) and a(u)", map_of(x="u", y="v"), "all", "once", "prices")
        self.check("() if a(x) and a(x)", "() if a(y) and a(y)", map_of(x="y"), "all", "once", "prices")
        self.check("(3) if a(4, x)", "(3) if a(4, z)", map_of(x="z"), "all", "once", "prices")
        self.check("() if a(x) and a(y)", "() if a(x) and a(y)", map_of(x="y", y="x"), "all", "once", "prices")
        self.check("(1) if a() and b()", "(1) if b() and a()", (), "all", "once", "prices")
        self.check("() if true", "() if true", (), "all", "once", "prices")

    def test_exact_where_a_variable_becomes_a_value(self):
        self.check("() if a(x)", "() if a(1)", map_of(x=[1]), "once", "prices")
        self.check('() if e(x, y)', '() if e(z, "z")', map_of(x="z", y=["z"]), "once", "prices")

    def test_exact_where_two_variables_become_one(self):
        self.check("() if e(x, y)", "() if e(z, z)", map_of(x="z", y="z"), "once", "prices")
        self.check("() if a(x) and a(y)", "() if a(z) and a(z)", map_of(x="z", y="z"), "once", "prices")
        self.check("() if a(x) and b(y)", "() if b(z) and a(z)", map_of(x="z", y="z"), "once", "prices")

    def test_part(self):
        self.check("(x) if a(x)", "(x) if a(x) and b(x)", map_of(x="x"), "prices")
        self.check("() if a(x)", "() if a(y) and a(y)", map_of(x="y"), "prices")
        self.check("() if a(x) and a(y)", "() if a(u) and a(v) and a(v)", map_of(x="v", y="v"), "prices")
        self.check("() if a(x) and a(y)", "() if a(u) and a(v) and a(v)", map_of(x="u", y="v"), "prices")
        self.check("() if true", "() if a(x)", (), "prices")
        self.check("() if a()", "() if a() and b()", (), "prices")

    def test_none_of_them(self):
        self.check("() if a(x) and a(y)", "() if a(z)", map_of(x="z", y="z"))
        self.check("() if a(x) and a(x)", "() if a(z)", map_of(x="z"))
        self.check("() if a(x) and a(y)", "() if a(u) and a(v)", map_of(x="u", y="u"))
        self.check("() if a(x) and a(y) and a(z)", "() if a(u) and a(v) and a(v)", map_of(x="u", y="u", z="v"))
        self.check("() if a() and a()", "() if a() and b()", ())
        self.check("() if a(x) and a(x)", "() if a(y) and b() and c()", map_of(x="y"))

    def test_by_counting(self):
        chance = random.Random(27)
        found = {}
        for _ in range(1500):
            join, other = some_join(chance, 0, most=4), some_join(chance, 0, most=4)
            for mapping in matchings(join, other):
                for kind in KINDS:
                    expected = plainly_fits(kind, join, other, mapping)
                    self.assertIs(fits(kind, join, other, mapping), expected)
                    found[kind, expected] = found.get((kind, expected), 0) + 1
        for kind in KINDS:
            self.assertGreater(found[kind, True], 20)
            self.assertGreater(found.get((kind, False), 21 * (kind in ("sets", "yes"))), 20)


class CoversTest(unittest.TestCase):
    A, B, C = ("a", (var("x"),)), ("b", ()), ("a", (var("y"),))

    def check(self, text, images, expected):
        before = list(images)
        self.assertIs(covers(join_of(text), images), expected)
        self.assertEqual(images, before)

    def test_the_empty_list(self):
        self.check("() if true", [], False)
        self.check("(x) if a(x)", [], False)

    def test_images_of_the_empty_body(self):
        self.check("() if true", [()], True)
        self.check("() if true", [(), ()], True)
        self.check("() if b()", [()], False)
        self.check("() if b()", [(), ()], False)

    def test_one_image(self):
        self.check("(x) if a(x)", [(self.A,)], True)
        self.check("(x) if a(x)", [(self.A, self.A)], True)
        self.check("(x) if a(x) and a(x)", [(self.A,)], True)
        self.check("(x) if a(x) and b()", [(self.A, self.B)], True)
        self.check("(x) if a(x) and b()", [(self.B, self.A)], True)
        self.check("() if true", [(self.A,)], True)

    def test_an_atom_that_stands_in_no_image(self):
        self.check("(x) if a(x)", [(self.B,)], False)
        self.check("(x) if a(x)", [(self.C,)], False)
        self.check("(x) if a(x) and b()", [(self.A,)], False)
        self.check("(x) if b() and a(x)", [(self.A,), (self.A,)], False)
        self.check("(x) if a(x) and b() and a(y)", [(self.A,), (self.B,)], False)
        self.check("(x) if a(x) and b() and a(y)", [(self.C,), (self.B,), ()], False)

    def test_several_images(self):
        self.check("(x) if a(x) and b()", [(self.A,), (self.B,)], True)
        self.check("(x) if a(x) and b() and a(y)", [(self.A, self.B), (self.B, self.C)], True)
        self.check("(x) if a(x) and b() and a(y)", [(), (self.C,), (self.A,), (self.B,)], True)

    def test_images_of_matchings(self):
        join = join_of("() if a(x) and a(y)")
        own = join_of("() if a(z)")
        self.assertIs(covers(join, [image(own, map_of(z="x"))]), False)
        self.assertIs(covers(join, [image(own, map_of(z="x")), image(own, map_of(z="y"))]), True)


if __name__ == "__main__":
    unittest.main()
