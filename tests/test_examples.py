"""The examples of the document."""

import unittest

from anyworth.comparing import compare, within
from anyworth.errors import BadText
from anyworth.formulas import read_formula
from anyworth.houses import kinds_of, plus, times
from anyworth.leaning import least_question
from anyworth.plainly import plain_answers
from anyworth.reading import read_question
from anyworth.reducing import reduced
from anyworth.store import Store
from anyworth.tabled import fault_of
from anyworth.views import expanded
from anyworth.writing import write_question


class ExampleTest(unittest.TestCase):
    def test_least(self):
        self.assertEqual((plus(("least",), 3, None), times(("least",), 3, 4)), (3, 7))

    def test_prices(self):
        self.assertEqual(plus(("prices", 2), ((1, 4),), ((2, 2), (3, 5))), ((1, 4), (2, 2)))

    def test_families(self):
        self.assertEqual(times(("families",), (1, 2, 3), (4,)), (5, 6, 7))

    def test_kinds(self):
        self.assertEqual(kinds_of(("least",)), ("all", "once", "prices"))

    def test_fault(self):
        self.assertEqual(fault_of(("table", 1, ((0, 1), (1, 1)), ((0, 0), (1, 1)))), ("times turns", 0, 1, 0))

    def test_read_formula(self):
        formula = ((((1, 1), (2, 1)), 2), (((3, 2),), 1))
        self.assertEqual(read_formula(("counts",), formula, {1: 2, 2: 5, 3: 3}), 29)

    def test_reduced(self):
        self.assertEqual(reduced("prices", ((((1, 1),), 2), (((1, 1), (2, 1)), 1))), ((((1, 1),), 1),))

    def test_write_question(self):
        likes = ("likes", (("var", "x"), ("value", "tea")))
        self.assertEqual(write_question((1, (((("var", "x"),), (likes,)),))), '(x) if likes(x, "tea")')

    def test_read_question(self):
        likes, is_there = ("likes", (("var", "x"), ("var", "y"))), ("open", (("var", "y"),))
        self.assertEqual(read_question('(x) if likes(x, y) and open(y); (3) if true'),
                         (1, (((("var", "x"),), (likes, is_there)), ((("value", 3),), ()))))

    def test_bad_text(self):
        with self.assertRaises(BadText) as caught:
            read_question('(x) if likes(x')
        self.assertEqual(caught.exception.at, 14)

    def test_plain_answers(self):
        roads = [("road", ("a", "b"), 4), ("road", ("b", "c"), 3), ("road", ("a", "c"), 9)]
        question = read_question('(x, z) if road(x, y) and road(y, z)')
        self.assertEqual(plain_answers(("least",), roads, question), ((("a", "c"), 7),))

    def test_compare(self):
        twice = read_question('(x) if a(x); (x) if a(x)')
        once = read_question('(x) if a(x)')
        self.assertEqual((compare("once", twice, once)[0], compare("all", twice, once)[0]), ("same", "apart"))

    def test_within(self):
        together = read_question('() if a(x) and b(y)')
        apart = read_question('() if a(x); () if b(x)')
        self.assertEqual((within("sets", together, apart)[0], within("sets", apart, together)[0]), ("within", "not"))

    def test_least_question(self):
        least = least_question("yes", read_question('(x) if e(x, y) and e(x, z)'))
        self.assertEqual(len(least[1][0][1]), 1)

    def test_store(self):
        store = Store(("least",))
        store.do([("tell", "road", ("a", "b"), 4), ("tell", "road", ("b", "c"), 3)])
        number = store.keep(read_question('(x, z) if road(x, y) and road(y, z)'))
        self.assertEqual((store.kept(number), store.formulas(number), store.read_in(("counts",), {1: 2, 2: 5}, number)),
                         (((("a", "c"), 7),), ((("a", "c"), ((((1, 1), (2, 1)), 1),)),), ((("a", "c"), 10),)))

    def test_expanded(self):
        ways = read_question('(x, z) if road(x, y) and road(y, z)')
        question = read_question('(x) if way(x, "c")')
        self.assertEqual(expanded(question, (("way", ways),))[1][0][1][1][1][1], ("value", "c"))


if __name__ == "__main__":
    unittest.main()
