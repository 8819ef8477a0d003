"""The store, its deeds and their errors: [34], [35], and [2] for objects."""

import copy
import itertools
import random
import unittest

from anyworth.errors import NoFact, NoHouse, NoKept, NoQuestion, NoRow, NoWorth, WorthError
from anyworth.plainly import plain_answers
from anyworth.reading import read_question
from anyworth.store import Store
from tests.samples import BAD_WORTHS, BIG, WORTHS, nested_left
from tests.terms import NO_WORDS

COUNTS = ("counts",)
ALL_A = read_question("(x) if a(x)")


def state_of(store, kept=()):
    """Return all that can be seen of a store, with the kept questions of these numbers."""
    return (store.store_house, store.facts(), store.changes(), store.ask(ALL_A), store.ask(read_question("() if a(x)")),
            [(store.kept(number), store.formulas(number)) for number in kept])


class StoreCase(unittest.TestCase):
    def check_error(self, store, deeds, error, number=None, kept=()):
        """Check that the deeds raise the error and change nothing."""
        before, told = state_of(store, kept), copy.deepcopy(deeds)
        with self.assertRaises(error) as caught:
            store.do(deeds)
        self.assertIs(type(caught.exception), error)
        self.assertIsInstance(caught.exception, WorthError)
        if error is NoFact:
            self.assertEqual(caught.exception.number, number)
        self.assertEqual(state_of(store, kept), before)
        self.assertEqual(deeds, told)


class HouseTest(StoreCase):
    def test_the_house(self):
        for house in WORTHS:
            store = Store(house)
            self.assertEqual(store.store_house, house)
            self.assertEqual((store.facts(), store.changes()), ((), ()))

    def test_no_house(self):
        for house in [("capped", 0), ("modulo", -1), ("chain", 0), ("divisors", 0), ("prices", 0), ("prices", 41),
                      ("table", 1, ((0, 1), (1, 1)), ((0, 0), (1, 1))), ("table", 0, (), ()),
                      ("pair", COUNTS, ("modulo", 0)), nested_left(COUNTS, 7)]:
            with self.assertRaises(NoHouse) as caught:
                Store(house)
            self.assertIsInstance(caught.exception, WorthError)
        self.assertEqual(Store(nested_left(COUNTS, 6)).facts(), ())


class DoTest(StoreCase):
    def test_the_numbers(self):
        store = Store(COUNTS)
        self.assertEqual(store.do([("tell", "a", (1,), 2), ("tell", "b", (), 3)]), (1, 2))
        self.assertEqual(store.do([("tell", "a", (1,), 5)]), (3,))
        self.assertEqual(store.do([]), ())
        self.assertEqual(store.facts(), ((1, "a", (1,), 2), (2, "b", (), 3), (3, "a", (1,), 5)))
        self.assertIs(type(store.facts()), tuple)
        self.assertIs(type(store.facts()[0]), tuple)

    def test_numbers_are_not_used_again(self):
        store = Store(COUNTS)
        store.do([("tell", "a", (1,), 2), ("tell", "a", (2,), 3)])
        store.do([("withdraw", 2)])
        self.assertEqual(store.do([("tell", "a", (3,), 4)]), (3,))
        store.do([("withdraw", 3), ("withdraw", 1)])
        self.assertEqual(store.facts(), ())
        self.assertEqual(store.do([("tell", "a", (1,), 2)]), (4,))

    def test_numbers_that_the_same_list_withdrew(self):
        store = Store(COUNTS)
        numbers = store.do([("tell", "a", (1,), 2), ("withdraw", 1), ("tell", "a", (2,), 3), ("tell", "a", (3,), 4),
                            ("withdraw", 3)])
        self.assertEqual(numbers, (1, 2, 3))
        self.assertEqual(store.facts(), ((2, "a", (2,), 3),))
        self.assertEqual(store.do([("tell", "a", (4,), 5)]), (4,))

    def test_numbers_after_an_error_are_given_again(self):
        store = Store(COUNTS)
        store.do([("tell", "a", (1,), 2)])
        self.check_error(store, [("tell", "a", (2,), 2), ("tell", "a", (3,), 2), ("withdraw", 9)], NoFact, 9)
        self.assertEqual(store.do([("tell", "b", (2,), 2)]), (2,))
        self.check_error(store, [("withdraw", 2), ("tell", "a", (2,), 2), ("withdraw", 2)], NoFact, 2)
        self.assertEqual(store.do([("withdraw", 2), ("tell", "b", (3,), 2)]), (3,))

    def test_values(self):
        store = Store(COUNTS)
        store.do([("tell", "a", (1,), 2), ("tell", "b", (2,), 3)])
        self.assertEqual(store.do([("value", 1, 7)]), ())
        self.assertEqual(store.facts(), ((1, "a", (1,), 7), (2, "b", (2,), 3)))
        store.do([("value", 2, 0), ("value", 2, 5), ("tell", "c", (), 1), ("value", 3, 9), ("value", 1, 7)])
        self.assertEqual(store.facts(), ((1, "a", (1,), 7), (2, "b", (2,), 5), (3, "c", (), 9)))

    def test_one_deed_after_the_other(self):
        store = Store(COUNTS)
        self.assertEqual(store.do([("tell", "a", (1,), 2), ("value", 1, 3), ("withdraw", 1), ("tell", "a", (1,), 4)]),
                         (1, 2))
        self.check_error(store, [("withdraw", 2), ("value", 2, 3)], NoFact, 2)
        self.check_error(store, [("withdraw", 2), ("withdraw", 2)], NoFact, 2)
        self.check_error(store, [("value", 3, 3), ("tell", "a", (1,), 4)], NoFact, 3)
        self.assertEqual(store.facts(), ((2, "a", (1,), 4),))

    def test_the_same_name_and_row(self):
        store = Store(COUNTS)
        store.do([("tell", "a", (1,), 2), ("tell", "a", (1,), 2), ("tell", "a", (1,), 0)])
        self.assertEqual(store.ask(ALL_A), (((1,), 4),))
        store.do([("withdraw", 1)])
        self.assertEqual(store.ask(ALL_A), (((1,), 2),))
        store.do([("value", 3, 5), ("withdraw", 2)])
        self.assertEqual(store.ask(ALL_A), (((1,), 5),))

    def test_no_fact(self):
        store = Store(COUNTS)
        for number in [0, 1, -1, 2, BIG]:
            self.check_error(store, [("withdraw", number)], NoFact, number)
            self.check_error(store, [("value", number, 1)], NoFact, number)
            self.check_error(store, [("value", number, None)], NoFact, number)
        store.do([("tell", "a", (1,), 2), ("tell", "a", (2,), 2), ("withdraw", 1)])
        for number in [0, 1, -1, -2, 3]:
            self.check_error(store, [("withdraw", number)], NoFact, number)
            self.check_error(store, [("value", number, -1)], NoFact, number)

    def test_no_row(self):
        store = Store(COUNTS)
        for text in NO_WORDS:
            self.check_error(store, [("tell", text, (1,), 2)], NoRow)
            self.check_error(store, [("tell", "a", (text,), 2)], NoRow)
            self.check_error(store, [("tell", "a", (1, "b", text, 3), 2)], NoRow)
            self.check_error(store, [("tell", text, (text,), None)], NoRow)
        self.check_error(store, [("tell", "a", (1,) * 9, 2)], NoRow)
        self.check_error(store, [("tell", "a", ("a",) * 30, -1)], NoRow)
        self.assertEqual(store.do([("tell", "a", (1,) * 8, 2), ("tell", "b", (), 2)]), (1, 2))

    def test_no_worth(self):
        for house, worths in BAD_WORTHS.items():
            good = WORTHS.get(house, [None])[0]
            store = Store(house)
            if house in WORTHS:
                store.do([("tell", "a", (1,), good)])
                self.check_error(store, [("value", 1, worths[0])], NoWorth)
            for worth in worths:
                self.check_error(store, [("tell", "a", (1,), worth)], NoWorth)
                self.check_error(store, [("tell", "A", (1,), worth)], NoRow)
                if house in WORTHS:
                    self.check_error(store, [("tell", "b", (), good), ("value", 1, worth)], NoWorth)

    def test_all_worths(self):
        for house, worths in WORTHS.items():
            store = Store(house)
            numbers = store.do([("tell", "a", (at,), worth) for at, worth in enumerate(worths)])
            self.assertEqual(store.facts(), tuple((at + 1, "a", (at,), worth) for at, worth in enumerate(worths)))
            store.do([("value", number, worths[-1]) for number in numbers])
            self.assertEqual([worth for _, _, _, worth in store.facts()], [worths[-1]] * len(worths))

    BAD = [(("withdraw", 17), NoFact), (("value", 18, 1), NoFact), (("value", 0, -1), NoFact),
           (("tell", "A", (1,), 2), NoRow),
           (("tell", "a", ("",), -2), NoRow), (("tell", "a", (1,), -2), NoWorth), (("value", 1, None), NoWorth)]

    def test_an_error_at_every_place(self):
        store = Store(COUNTS)
        store.do([("tell", "a", (1,), 2), ("tell", "e", (1, 2), 3), ("tell", "a", (2,), 5)])
        kept = [store.keep(read_question(text)) for text in ["(x) if a(x)", "(y) if a(x) and e(x, y)",
                                                             "() if a(x) and a(y)"]]
        store.do([("value", 1, 4), ("tell", "e", (2, 2), 1), ("withdraw", 3), ("tell", "a", (2,), 6)])
        good = [("tell", "a", (3,), 1), ("withdraw", 1), ("value", 2, 9), ("tell", "e", (3, 1), 7), ("withdraw", 5)]
        for bad, error in self.BAD:
            for place in range(len(good) + 1):
                deed = ("value", 2, None) if bad == ("value", 1, None) else bad
                deeds = good[:place] + [deed] + good[place:]
                self.check_error(store, deeds, error, bad[1], kept)
        self.assertEqual(store.do(good), (6, 7))

    def test_the_first_deed_with_an_error(self):
        store = Store(COUNTS)
        store.do([("tell", "a", (1,), 2)])
        for (bad, error), (other, _) in itertools.product(self.BAD, repeat=2):
            self.check_error(store, [bad, other], error, bad[1])
            self.check_error(store, [("tell", "a", (1,), 2), bad, other], error, bad[1])

    def test_long_lists(self):
        store = Store(COUNTS)
        numbers = store.do([("tell", "a", (k % 50,), k) for k in range(200)])
        self.assertEqual(numbers, tuple(range(1, 201)))
        self.assertEqual(len(store.facts()), 200)
        store.do([("withdraw", number) for number in numbers[:100]] + [("value", number,
                                                                        1) for number in numbers[100:]])
        self.assertEqual(store.ask(ALL_A), tuple(((k,), 2) for k in range(50)))


class AskTest(StoreCase):
    def test_answers(self):
        chance = random.Random(70)
        texts = ["(x) if a(x)", "(x, y) if e(x, y)", "(z) if e(x, y) and e(y, z)", "() if a(x) and e(x, y); () if true",
                 '("a") if e(1, x); (x) if a(x)', "none 2"]
        for house, worths in WORTHS.items():
            small = [worth for worth in worths if len(str(worth)) < 200]
            store = Store(house)
            facts = [("e", (chance.choice([1, 2, "a"]), chance.choice([1, 2, "a"])),
                      chance.choice(small)) for _ in range(5)]
            facts += [("a", (chance.choice([1, 2, "a"]),), chance.choice(small)) for _ in range(2)]
            store.do([("tell",) + fact for fact in facts])
            for text in texts:
                question = read_question(text)
                self.assertEqual(store.ask(question), plain_answers(house, facts, question))

    def test_an_empty_store(self):
        store = Store(COUNTS)
        self.assertEqual(store.ask(ALL_A), ())
        self.assertEqual(store.ask(read_question("(1) if true")), (((1,), 1),))

    def test_asking_changes_nothing(self):
        store = Store(COUNTS)
        store.do([("tell", "a", (1,), 2)])
        before = state_of(store)
        store.ask(read_question("(x) if a(x) and a(x)"))
        self.assertEqual(state_of(store), before)
        self.assertEqual(store.keep(ALL_A), 1)

    def test_no_question(self):
        store = Store(COUNTS)
        for question, join in [((9, ()), None), ((-1, ()), None), ((0, (((), ()),) * 13), None), ((1, (((), ()),)), 0),
                               ((0, (((), ()), ((), (("A", ()),)))), 1)]:
            for asked in [store.ask, store.keep]:
                with self.assertRaises(NoQuestion) as caught:
                    asked(question)
                self.assertEqual(caught.exception.join, join)
        self.assertEqual(store.keep(ALL_A), 1)


class ObjectsTest(StoreCase):
    def test_two_stores_have_nothing_in_common(self):
        first, second = Store(COUNTS), Store(COUNTS)
        first.do([("tell", "a", (1,), 2)])
        first.keep(ALL_A)
        self.assertEqual((second.facts(), second.changes(), second.ask(ALL_A)), ((), (), ()))
        with self.assertRaises(NoKept):
            second.kept(1)
        second.do([("tell", "a", (2,), 3), ("tell", "a", (3,), 3)])
        self.assertEqual(first.facts(), ((1, "a", (1,), 2),))
        self.assertEqual(first.kept(1), (((1,), 2),))
        self.assertEqual(second.keep(read_question("() if a(x)")), 1)
        first.do([("tell", "a", (2,), 3)])
        self.assertEqual((first.kept(1), second.kept(1)), ((((1,), 2), ((2,), 3)), (((), 6),)))
        second.drop(1)
        self.assertEqual(first.kept(1), (((1,), 2), ((2,), 3)))

    def test_later_changes_have_no_effect(self):
        store = Store(COUNTS)
        deeds = [("tell", "a", (1,), 2), ("tell", "a", (2,), 3)]
        store.do(deeds)
        number = store.keep(ALL_A)
        expected = state_of(store, [number])
        deeds.clear()
        self.assertEqual(state_of(store, [number]), expected)
        numbers, worths = [1], {1: 5, 2: 7}
        store.without(numbers, number)
        store.read_in(COUNTS, worths, number)
        numbers.append(2)
        worths.clear()
        self.assertEqual(state_of(store, [number]), expected)
        self.assertEqual(store.kept(number), (((1,), 2), ((2,), 3)))

    def test_results_stay_as_they_were(self):
        store = Store(COUNTS)
        store.do([("tell", "a", (1,), 2)])
        number = store.keep(ALL_A)
        store.do([("tell", "a", (2,), 3)])
        results = (store.facts(), store.changes(), store.ask(ALL_A), store.kept(number), store.formulas(number))
        before = copy.deepcopy(results)
        store.do([("withdraw", 1), ("value", 2, 9), ("tell", "a", (3,), 3)])
        store.drop(number)
        self.assertEqual(results, before)
        self.assertEqual(len(before[0]), 2)


if __name__ == "__main__":
    unittest.main()
