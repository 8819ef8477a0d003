"""Cases and what they part: [28]."""

import itertools
import random
import unittest

from anyworth.comparing import parts, parts_from
from anyworth.errors import OtherWidths, WorthError
from anyworth.houses import plus, zero
from anyworth.reading import read_question
from tests.polynomial import tag
from tests.samples import WORTHS
from tests.test_plainly import some_facts, some_question, worths_by_definition

COUNTS = ("counts",)


class PartsTest(unittest.TestCase):
    def check(self, house, facts, row, text, other_text, apart, apart_from):
        question, other = read_question(text), read_question(other_text)
        case = (house, tuple(facts), row)
        self.assertIs(parts(case, question, other), apart)
        self.assertIs(parts(case, other, question), apart)
        self.assertIs(parts_from(case, question, other), apart_from)

    def test_counts(self):
        facts = [("a", (1,), 2), ("a", (2,), 3), ("b", (1,), 2)]
        self.check(COUNTS, facts, (1,), "(x) if a(x)", "(x) if b(x)", False, True)
        self.check(COUNTS, facts, (2,), "(x) if a(x)", "(x) if b(x)", True, True)
        self.check(COUNTS, facts, (2,), "(x) if b(x)", "(x) if a(x)", True, False)
        self.check(COUNTS, facts, (3,), "(x) if a(x)", "(x) if b(x)", False, False)

    def test_what_adds_nothing(self):
        facts = [("a", (1,), 3), ("b", (1,), 5)]
        self.check(("least",), facts, (1,), "(x) if a(x)", "(x) if b(x)", True, True)
        self.check(("least",), facts, (1,), "(x) if b(x)", "(x) if a(x)", True, False)
        self.check(("chain", 9), facts, (1,), "(x) if a(x)", "(x) if b(x)", True, False)
        self.check(("chain", 9), facts, (1,), "(x) if b(x)", "(x) if a(x)", True, True)
        self.check(("yes",), [("a", (1,), 1)], (1,), "(x) if a(x)", "(x) if b(x)", True, True)
        self.check(("yes",), [("a", (1,), 1)], (1,), "(x) if b(x)", "(x) if a(x)", True, False)
        self.check(("sums",), [("a", (), (1, 2)), ("b", (), (2,))], (), "() if a()", "() if b()", True, True)
        self.check(("sums",), [("a", (), (1, 2)), ("b", (), (2,))], (), "() if b()", "() if a()", True, False)
        self.check(("sums",), [("a", (), (1, 2)), ("b", (), (2, 3))], (), "() if b()", "() if a()", True, True)
        self.check(("families",), [("a", (), (1,)), ("b", (), (2,))], (), "() if a()", "() if a(); () if b()", True,
                   False)
        self.check(("modulo", 6), [("a", (), 3), ("b", (), 3)], (), "() if a(); () if b()", "none 0", False, False)
        self.check(("prices", 2), [("a", (), ((1, 1),)), ("b", (), ((1, 2),))], (), "() if b()", "() if a()", True,
                   False)

    def test_facts_with_the_same_name_and_row(self):
        facts = [("a", (1,), 2), ("a", (1,), 3), ("b", (1,), 5)]
        self.check(COUNTS, facts, (1,), "(x) if a(x)", "(x) if b(x)", False, True)
        self.check(COUNTS, facts[:2] + facts, (1,), "(x) if a(x)", "(x) if b(x)", True, True)
        self.check(COUNTS, facts, (1,), "(x) if a(x) and a(x)", "(x) if b(x) and b(x)", False, True)
        self.check(("sums",), [("a", (), (0,)), ("a", (), (1,)), ("b", (), (0, 1))], (), "() if a()", "() if b()",
                   False, False)
        self.check(("formulas",), [("a", (), tag(1)), ("a", (), tag(2)), ("b", (), tag(1))], (), "() if a()",
                   "() if b()", True, True)

    def test_rows_of_another_length(self):
        facts = [("a", (1,), 2), ("a", (), 3), ("a", (1, 1), 7)]
        for row in [(), (1, 1), (1,) * 8, (1,) * 9, (1,) * 20, ("a", 1)]:
            self.check(COUNTS, facts, row, "(x) if a(x)", "(x) if b(x)", False, False)
            self.check(("least",), facts, row, "(x) if a(x)", "(x) if b(x)", False, False)
        self.check(COUNTS, facts, (1,), "(x) if a(x)", "(x) if b(x)", True, True)
        self.check(COUNTS, facts, (1,), "() if a()", "() if a(1, 1)", False, False)

    def test_no_facts(self):
        self.check(COUNTS, [], (), "() if true", "none 0", True, True)
        self.check(COUNTS, [], (), "none 0", "() if true", True, False)
        self.check(COUNTS, [], (), "() if a()", "none 0", False, False)
        self.check(("modulo", 1), [], (), "() if true", "none 0", False, False)

    def test_houses_of_every_form(self):
        chance = random.Random(33)
        told = set()
        for house, worths in WORTHS.items():
            nothing = zero(house)
            small = [worth for worth in worths if len(str(worth)) < 200]
            for _ in range(8):
                width = chance.randrange(2)
                facts = some_facts(chance, small)
                question, other = some_question(chance, width), some_question(chance, width)
                worths_there = worths_by_definition(house, facts, question)
                worths_here = worths_by_definition(house, facts, other)
                for row in [(), (1,), (2,), ("a",), (1, 1)]:
                    worth, against = worths_there.get(row, nothing), worths_here.get(row, nothing)
                    apart, apart_from = worth != against, plus(house, worth, against) != against
                    case = (house, tuple(facts), row)
                    self.assertIs(parts(case, question, other), apart)
                    self.assertIs(parts_from(case, question, other), apart_from)
                    told.add((apart, apart_from))
        self.assertGreaterEqual(len(told), 3)

    def test_other_widths(self):
        texts = ["() if a(x)", "(x) if a(x)", "none 2", "(3, 3, 3) if true"]
        for text, other_text in itertools.permutations(texts, 2):
            question, other = read_question(text), read_question(other_text)
            for case in [(COUNTS, (), ()), (("least",), (("a", (1,), 3),), (1,))]:
                for asked in [parts, parts_from]:
                    with self.assertRaises(OtherWidths) as caught:
                        asked(case, question, other)
                    self.assertIsInstance(caught.exception, WorthError)


if __name__ == "__main__":
    unittest.main()
