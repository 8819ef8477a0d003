"""Kept questions, their formulas, changes and sources: [34], [36] to [39]."""

import itertools
import random
import unittest

from anyworth.errors import NoFact, NoKept, NoQuestion, WorthError
from anyworth.formulas import is_formula, read_formula, tag_formula
from anyworth.houses import zero
from anyworth.plainly import plain_answers
from anyworth.reading import read_question
from anyworth.store import Store
from anyworth.values import sorted_rows
from tests.joins import some_joins
from tests.polynomial import each_once, plainly_reduced, tag
from tests.samples import WORTHS

COUNTS = ("counts",)
FORMULAS = ("formulas",)
SMALL = {house: [worth for worth in worths if len(str(worth)) < 200] for house, worths in WORTHS.items()}
TEXTS = ["(x) if a(x)", "(x, z) if e(x, y) and e(y, z)", "(x) if e(x, y) and a(y)", "() if a(x) and a(y)",
         "(x) if e(x, x)",
         "(x) if a(x); (y) if e(x, y); (1) if true", "() if true", "none 1", '(y) if e(1, y) and e("a", y)',
         "() if a(x) and a(x) and e(x, y)"]


def roads():
    """Return a store of roads, with a kept question for ways over two of them."""
    store = Store(("least",))
    store.do([("tell", "road", ("a", "b"), 4), ("tell", "road", ("b", "c"), 3), ("tell", "road", ("a", "d"), 1),
              ("tell", "road", ("d", "c"), 5), ("tell", "road", ("b", "c"), 2)])
    return (store, store.keep(read_question("(x, z) if road(x, y) and road(y, z)")))


def monomial(*tags):
    return tuple((number, tags.count(number)) for number in sorted(set(tags)))


def formula(*monomials):
    return each_once(*[monomial(*tags) for tags in monomials])


class KeepTest(unittest.TestCase):
    def test_the_numbers(self):
        store = Store(COUNTS)
        question = read_question("(x) if a(x)")
        self.assertEqual([store.keep(question), store.keep(question), store.keep(read_question("none 0"))], [1, 2, 3])
        self.assertIsNone(store.drop(2))
        self.assertEqual(store.keep(question), 4)
        store.drop(4)
        store.drop(1)
        store.drop(3)
        self.assertEqual(store.keep(question), 5)

    def test_no_question_uses_up_no_number(self):
        store = Store(COUNTS)
        self.assertEqual(store.keep(read_question("none 0")), 1)
        for question, join in [((9, ()), None), ((1, (((), ()),)), 0)]:
            with self.assertRaises(NoQuestion) as caught:
                store.keep(question)
            self.assertEqual(caught.exception.join, join)
        self.assertEqual(store.keep(read_question("none 0")), 2)
        store.do([])
        self.assertEqual([number for number, _ in store.changes()], [1, 2])

    def test_not_kept(self):
        store = Store(COUNTS)
        store.do([("tell", "a", (1,), 2)])
        kept, dropped = store.keep(read_question("(x) if a(x)")), store.keep(read_question("(x) if a(x)"))
        store.drop(dropped)
        before = (store.facts(), store.changes(), store.formulas(kept))
        for number in [0, -1, dropped, dropped + 1, 10 ** 40]:
            for asked in [store.drop, store.kept, store.formulas, lambda told: store.sources(told, (1,)),
                          lambda told: store.read_in(COUNTS, {}, told), lambda told: store.without([], told)]:
                with self.assertRaises(NoKept) as caught:
                    asked(number)
                self.assertEqual(caught.exception.number, number)
                self.assertIsInstance(caught.exception, WorthError)
        self.assertEqual((store.facts(), store.changes(), store.formulas(kept)), before)
        self.assertEqual(store.kept(kept), (((1,), 2),))

    def test_kept_answers(self):
        store, number = roads()
        self.assertEqual(store.kept(number), ((("a", "c"), 6),))
        store.do([("withdraw", 5)])
        self.assertEqual(store.kept(number), ((("a", "c"), 6),))
        store.do([("value", 4, 9)])
        self.assertEqual(store.kept(number), ((("a", "c"), 7),))
        store.do([("tell", "road", ("c", "a"), 0), ("withdraw", 2), ("withdraw", 3)])
        self.assertEqual(store.kept(number), ((("c", "b"), 4), (("d", "a"), 9)))
        store.do([("value", 6, None)])
        self.assertEqual(store.kept(number), ())
        self.assertEqual(len(store.formulas(number)), 2)

    def test_answers_that_are_zero(self):
        store = Store(("modulo", 6))
        store.do([("tell", "a", (1,), 2), ("tell", "a", (2,), 1), ("tell", "b", (1,), 3), ("tell", "b", (2,), 5)])
        number = store.keep(read_question("(x) if a(x) and b(x)"))
        self.assertEqual(store.kept(number), (((2,), 5),))
        self.assertEqual([row for row, _ in store.formulas(number)], [(1,), (2,)])


class FormulasTest(unittest.TestCase):
    def test_tags_are_the_numbers_of_the_facts(self):
        store, number = roads()
        self.assertEqual(store.formulas(number), ((("a", "c"), formula((1, 2), (1, 5), (3, 4))),))
        store.do([("withdraw", 1)])
        self.assertEqual(store.formulas(number), ((("a", "c"), formula((3, 4))),))
        self.assertEqual(store.do([("tell", "road", ("a", "b"), 7)]), (6,))
        self.assertEqual(store.formulas(number), ((("a", "c"), formula((2, 6), (3, 4), (5, 6))),))
        store.do([("tell", "road", ("c", "c"), 7)])
        self.assertEqual(store.formulas(number), (
            (("a", "c"), formula((2, 6), (3, 4), (5, 6))), (("b", "c"), formula((2, 7), (5, 7))),
            (("c", "c"), formula((7, 7))), (("d", "c"), formula((4, 7)))))

    def test_coefficients_and_exponents(self):
        store = Store(COUNTS)
        store.do([("tell", "a", (1,), 2), ("tell", "a", (1,), 3), ("tell", "a", (2,), 5)])
        number = store.keep(read_question("(x) if a(x) and a(x); (x) if a(x); (2) if true"))
        squares = ((((1, 1),), 1), (((1, 1), (2, 1)), 2), (((1, 2),), 1), (((2, 1),), 1), (((2, 2),), 1))
        self.assertEqual(store.formulas(number), (((1,), squares), ((2,), (((), 1), (((3, 1),), 1), (((3, 2),), 1)))))

    def test_other_worths_do_not_change_them(self):
        store, number = roads()
        before = store.formulas(number)
        for worth in [0, None, 17]:
            store.do([("value", told, worth) for told in range(1, 6)])
            self.assertEqual(store.formulas(number), before)
        self.assertEqual(store.changes(), ((number, ()),))

    def test_facts_with_the_worth_zero(self):
        store = Store(("least",))
        store.do([("tell", "a", (1,), None), ("tell", "a", (2,), 3)])
        number = store.keep(read_question("(x) if a(x)"))
        self.assertEqual(store.formulas(number), (((1,), tag(1)), ((2,), tag(2))))
        self.assertEqual(store.kept(number), (((2,), 3),))

    def test_rows_in_ascending_order(self):
        store = Store(COUNTS)
        number = store.keep(read_question("(x) if a(x)"))
        rows = [("b",), (10,), ("a",), (9,), (-1,), ("aa",)]
        for row in rows:
            store.do([("tell", "a", row, 1)])
        self.assertEqual([row for row, _ in store.formulas(number)], [(-1,), (9,), (10,), ("a",), ("aa",), ("b",)])

    def test_the_plain_meaning_after_every_list(self):
        chance = random.Random(71)
        for house, worths in SMALL.items():
            store = Store(house)
            questions = {store.keep(read_question(text)): read_question(text) for text in TEXTS}
            for _ in range(6):
                question = some_joins(chance, 1, chance.randrange(1, 3), names="pq")
                questions[store.keep(question)] = question
                before = {number: dict(store.formulas(number)) for number in questions}
                store.do(self.some_deeds(chance, store, worths))
                self.check_store(house, store, questions)
                self.check_changes(store, questions, before)

    def some_deeds(self, chance, store, worths):
        """Return deeds that raise no error."""
        deeds = []
        numbers = [number for number, _, _, _ in store.facts()]
        chance.shuffle(numbers)
        for _ in range(chance.randrange(6)):
            name = chance.choice("aeepq")
            row = tuple(chance.choice([1, 2, "a"]) for _ in range(2 if name in "eq" else 1))
            told = chance.randrange(4)
            if told == 0 and numbers:
                deeds.append(("withdraw", numbers.pop()))
            elif told == 1 and numbers:
                deeds.append(("value", numbers[0], chance.choice(worths)))
            else:
                deeds.append(("tell", name, row, chance.choice(worths)))
        return deeds

    def check_store(self, house, store, questions):
        facts = [(name, row, worth) for _, name, row, worth in store.facts()]
        tagged = [(name, row, tag_formula(number)) for number, name, row, _ in store.facts()]
        worths = {number: worth for number, _, _, worth in store.facts()}
        for number, question in questions.items():
            formulas = store.formulas(number)
            self.assertEqual(formulas, plain_answers(FORMULAS, tagged, question))
            answers = plain_answers(house, facts, question)
            self.assertEqual(store.kept(number), answers)
            self.assertEqual(store.ask(question), answers)
            read = [(row, read_formula(house, told, worths)) for row, told in formulas]
            self.assertEqual(answers, tuple((row, worth) for row, worth in read if worth != zero(house)))

    def check_changes(self, store, questions, before):
        expected = []
        for number in sorted(questions):
            after = dict(store.formulas(number))
            rows = sorted_rows(list(before[number]) + list(after))
            pairs = [(row, before[number].get(row, ()), after.get(row, ())) for row in rows]
            expected.append((number, tuple(told for told in pairs if told[1] != told[2])))
        self.assertEqual(store.changes(), tuple(expected))


class ChangesTest(unittest.TestCase):
    def setUp(self):
        self.store = Store(COUNTS)

    def test_before_the_first_list(self):
        self.assertEqual(self.store.changes(), ())
        self.store.keep(read_question("(1) if true"))
        self.assertEqual(self.store.changes(), ())

    def test_after_each_list(self):
        number = self.store.keep(read_question("(x) if a(x); (1) if true"))
        self.store.do([("tell", "a", (2,), 5), ("tell", "a", (1,), 5)])
        with_one = (((), 1), (((2, 1),), 1))
        self.assertEqual(self.store.changes(), ((number, (((1,), (((), 1),), with_one), ((2,), (), tag(1)))),))
        self.store.do([("withdraw", 1)])
        self.assertEqual(self.store.changes(), ((number, (((2,), tag(1), ()),)),))
        self.store.do([("tell", "b", (1,), 3)])
        self.assertEqual(self.store.changes(), ((number, ()),))
        self.store.do([("withdraw", 2), ("tell", "a", (1,), 5)])
        self.assertEqual(self.store.changes(), ((number, (((1,), with_one, (((), 1), (((4, 1),), 1))),)),))
        changes = self.store.changes()
        for part in [changes, changes[0], changes[0][1], changes[0][1][0]]:
            self.assertIs(type(part), tuple)

    def test_what_a_list_takes_back_is_no_change(self):
        number = self.store.keep(read_question("(x) if a(x)"))
        self.store.do([("tell", "a", (2,), 5), ("withdraw", 1)])
        self.assertEqual(self.store.changes(), ((number, ()),))

    def test_an_empty_list(self):
        self.assertEqual(self.store.do([]), ())
        self.assertEqual(self.store.changes(), ())
        number = self.store.keep(read_question("(x) if a(x)"))
        self.store.do([("tell", "a", (2,), 5)])
        self.assertEqual(self.store.changes(), ((number, (((2,), (), tag(1)),)),))
        self.store.do([])
        self.assertEqual(self.store.changes(), ((number, ()),))

    def test_a_list_that_raised_an_error(self):
        number = self.store.keep(read_question("(x) if a(x)"))
        self.store.do([("tell", "a", (2,), 5)])
        before = self.store.changes()
        with self.assertRaises(NoFact):
            self.store.do([("tell", "a", (3,), 5), ("withdraw", 1), ("withdraw", 1)])
        self.assertEqual(self.store.changes(), before)
        self.assertEqual(before, ((number, (((2,), (), tag(1)),)),))

    def test_values_change_no_formula(self):
        number = self.store.keep(read_question("(x) if a(x)"))
        self.store.do([("tell", "a", (2,), 5)])
        self.store.do([("value", 1, 0)])
        self.assertEqual(self.store.changes(), ((number, ()),))

    def test_questions_kept_and_dropped_between(self):
        first = self.store.keep(read_question("(x) if a(x)"))
        second = self.store.keep(read_question("() if a(x)"))
        self.store.do([("tell", "a", (2,), 5)])
        papers = ((first, (((2,), (), tag(1)),)), (second, (((), (), tag(1)),)))
        self.assertEqual(self.store.changes(), papers)
        self.store.drop(first)
        third = self.store.keep(read_question("(x, x) if a(x)"))
        self.assertEqual(self.store.changes(), papers)
        self.store.do([("tell", "a", (3,), 5)])
        both = (tag(1)[0], tag(2)[0])
        self.assertEqual(self.store.changes(), ((second, (((), tag(1), both),)), (third, (((3, 3), (), tag(2)),))))
        self.store.drop(second)
        self.store.drop(third)
        self.assertEqual(len(self.store.changes()), 2)
        self.store.do([])
        self.assertEqual(self.store.changes(), ())

    def test_rows_in_ascending_order(self):
        number = self.store.keep(read_question("(x) if a(x)"))
        rows = [("b",), (10,), ("a",), (9,), (-1,), ("aa",)]
        self.store.do([("tell", "a", row, 1) for row in rows])
        self.store.do([("withdraw", 1), ("withdraw", 4), ("tell", "a", ("ab",), 1), ("tell", "a", (9,), 1)])
        (told,) = self.store.changes()
        self.assertEqual(told, (number, (((9,), tag(4), tag(8)), (("ab",), (), tag(7)), (("b",), tag(1), ()))))


class SourcesTest(unittest.TestCase):
    def test_several_ways(self):
        store, number = roads()
        self.assertEqual(store.sources(number, ("a", "c")), ((1, 2), (1, 5), (3, 4)))
        store.do([("withdraw", 2)])
        self.assertEqual(store.sources(number, ("a", "c")), ((1, 5), (3, 4)))

    def test_no_formula(self):
        store, number = roads()
        for row in [("a", "b"), ("c", "a"), (), ("a",), ("a", "c", "c"), (1, 2), ("nowhere", "a"), (1,) * 9]:
            self.assertEqual(store.sources(number, row), ())
        self.assertEqual(store.sources(store.keep(read_question("none 2")), ("a", "c")), ())

    def test_the_smallest_lots(self):
        store = Store(COUNTS)
        store.do([("tell", "a", (1,), 2), ("tell", "b", (1,), 3), ("tell", "a", (1,), 0), ("tell", "c", (), 1)])
        number = store.keep(read_question("(x) if a(x) and b(x); (x) if a(x) and a(x) and a(x); (x) if b(x) and c()"))
        self.assertEqual(store.sources(number, (1,)), ((1,), (2, 4), (3,)))
        store.do([("withdraw", 1), ("withdraw", 3)])
        self.assertEqual(store.sources(number, (1,)), ((2, 4),))

    def test_a_row_that_needs_no_fact(self):
        store = Store(COUNTS)
        store.do([("tell", "a", (1,), 2)])
        number = store.keep(read_question("(x) if a(x); (1) if true; (2) if a(x)"))
        self.assertEqual(store.sources(number, (1,)), ((),))
        self.assertEqual(store.sources(number, (2,)), ((1,),))

    def test_worths_do_not_matter(self):
        store, number = roads()
        store.do([("value", told, None) for told in range(1, 6)])
        self.assertEqual(store.kept(number), ())
        self.assertEqual(store.sources(number, ("a", "c")), ((1, 2), (1, 5), (3, 4)))

    def test_in_the_house_yes(self):
        chance = random.Random(72)
        for _ in range(40):
            store = Store(COUNTS)
            number = store.keep(some_joins(chance, 1, 2, names="pq"))
            store.do([("tell", name, (chance.choice([1, 2]),) + (1,) * (name == "q"), 1) for name in "ppqqq"])
            for row, told in store.formulas(number):
                sources = store.sources(number, row)
                self.assertEqual(list(sources), sorted(sources))
                self.assertEqual(each_once(*[monomial(*lot) for lot in sources]), plainly_reduced("yes", told))
                for bits in itertools.product([0, 1], repeat=5):
                    worths = dict(zip(range(1, 6), bits))
                    given = any(all(worths[fact] for fact in lot) for lot in sources)
                    self.assertEqual(dict(store.read_in(("yes",), worths, number)).get(row, 0), int(given))


class ReadInTest(unittest.TestCase):
    def test_other_houses(self):
        store, number = roads()
        row = ("a", "c")
        self.assertEqual(store.read_in(COUNTS, {1: 2, 2: 3, 3: 5, 4: 7, 5: 11}, number), ((row, 6 + 22 + 35),))
        self.assertEqual(store.read_in(("yes",), {1: 1, 5: 1}, number), ((row, 1),))
        self.assertEqual(store.read_in(("yes",), {1: 1, 3: 1}, number), ())
        self.assertEqual(store.read_in(("sums",), {1: (1,), 2: (2,), 5: (3, 4)}, number), ((row, (3, 4, 5)),))
        self.assertEqual(store.read_in(("least",), {1: 1, 2: 1, 3: 0, 4: 1, 5: 1}, number), ((row, 1),))

    def test_numbers_without_a_worth(self):
        store, number = roads()
        self.assertEqual(store.read_in(COUNTS, {}, number), ())
        self.assertEqual(store.read_in(COUNTS, {3: 2, 4: 5}, number), ((("a", "c"), 10),))
        self.assertEqual(store.read_in(("least",), {3: 2}, number), ())

    def test_numbers_that_no_fact_has(self):
        store, number = roads()
        worths = {3: 2, 4: 5, 0: 1, -1: 4, 6: 3, 10 ** 40: 1}
        before = dict(worths)
        self.assertEqual(store.read_in(COUNTS, worths, number), ((("a", "c"), 10),))
        self.assertEqual(worths, before)
        store.do([("withdraw", 4)])
        self.assertEqual(store.read_in(COUNTS, worths, number), ())
        self.assertEqual(worths, before)

    def test_houses_of_every_form(self):
        chance = random.Random(73)
        store = Store(COUNTS)
        texts = ["(x) if a(x) and e(x, y)", "() if a(x) and a(y)", "(x) if a(x); (1) if true", "(x) if e(x, x)"]
        numbers = [store.keep(read_question(text)) for text in texts]
        store.do([("tell", "a", (1,), 0), ("tell", "a", (2,), 1), ("tell", "e", (1, 2), 1), ("tell", "e", (1, 1), 1)])
        store.do([("withdraw", 2), ("tell", "a", (2,), 1)])
        for house, told in SMALL.items():
            for _ in range(3):
                worths = {number: chance.choice(told) for number in [1, 2, 3, 5, 9]}
                facts = [(name, row, worths.get(number, zero(house))) for number, name, row, _ in store.facts()]
                for number, text in zip(numbers, texts):
                    expected = plain_answers(house, facts, read_question(text))
                    self.assertEqual(store.read_in(house, worths, number), expected)
        self.assertEqual(len(store.facts()), 4)


class WithoutTest(unittest.TestCase):
    def test_without(self):
        store, number = roads()
        before = (store.facts(), store.formulas(number), store.changes(), store.kept(number))
        numbers = [3, 5]
        self.assertEqual(store.without(numbers, number), ((("a", "c"), 7),))
        self.assertEqual(numbers, [3, 5])
        self.assertEqual(store.without([], number), ((("a", "c"), 6),))
        self.assertEqual(store.without([1], number), ((("a", "c"), 6),))
        self.assertEqual(store.without([1, 4], number), ())
        self.assertEqual(store.without([4, 4, 1, 4], number), ())
        self.assertEqual((store.facts(), store.formulas(number), store.changes(), store.kept(number)), before)

    def test_numbers_that_no_fact_has(self):
        store, number = roads()
        self.assertEqual(store.without([0, -1, 6, 10 ** 40], number), ((("a", "c"), 6),))
        store.do([("withdraw", 1)])
        self.assertEqual(store.without([1, 9, 2], number), ((("a", "c"), 6),))

    def test_what_the_answers_would_be(self):
        chance = random.Random(74)
        for house, worths in SMALL.items():
            store = Store(house)
            numbers = [store.keep(read_question(text)) for text in TEXTS]
            facts = [(name, (chance.choice([1, 2, "a"]),) + (1,) * (name == "e"),
                      chance.choice(worths)) for name in "aaeee"]
            store.do([("tell",) + fact for fact in facts])
            gone = [number for number in range(1, 8) if chance.randrange(2)]
            left = [fact for at, fact in enumerate(facts) if at + 1 not in gone]
            expected = [plain_answers(house, left, read_question(text)) for text in TEXTS]
            self.assertEqual([store.without(gone, number) for number in numbers], expected)
            store.do([("withdraw", number) for number in gone if number <= 5])
            self.assertEqual([store.kept(number) for number in numbers], expected)


class BoundsTest(unittest.TestCase):
    def test_many_facts_and_kept_questions(self):
        store = Store(("pair", ("least",), COUNTS))
        texts = ["(x, z) if e(x, y) and e(y, z)", "(x, w) if e(x, y) and e(y, z) and e(z, w)",
                 "() if e(x, y) and e(y, x)",
                 "(x) if e(x, y); (y) if e(x, y); (1) if true"] * 10
        numbers = [store.keep(read_question(text)) for text in texts]
        self.assertEqual(numbers, list(range(1, 41)))
        deeds = [("tell", "e", (k % 40, (7 * k + k // 40) % 40), (k, 1 + k % 3)) for k in range(200)]
        store.do(deeds[:150])
        for deed in deeds[150:160]:
            store.do([deed])
        store.do(deeds[160:])
        for at in range(4):
            answers = store.ask(read_question(texts[at]))
            self.assertEqual(answers, plain_answers(store.store_house, [deed[1:] for deed in deeds],
                                                    read_question(texts[at])))
            for number in numbers[at::4]:
                self.assertEqual(store.kept(number), answers)
        for number in numbers:
            self.assertTrue(all(is_formula(told) for _, told in store.formulas(number)))

    def test_long_questions(self):
        store = Store(COUNTS)
        path = "(a, i) if " + " and ".join(f"e({x}, {y})" for x, y in zip("abcdefgh", "bcdefghi"))
        number = store.keep(read_question("; ".join([path] * 12)))
        store.do([("tell", "e", (k, k + 1), 2) for k in range(200)])
        self.assertEqual(store.kept(number), tuple(((k, k + 8), 12 * 256) for k in range(193)))
        store.do([("withdraw", 100)])
        self.assertEqual(len(store.kept(number)), 185)
        self.assertEqual(len(store.changes()[0][1]), 8)


if __name__ == "__main__":
    unittest.main()
