"""Words, values, rows and their order: [15]."""

import itertools
import random
import unittest

from anyworth.values import compare_values, is_row, is_word, sorted_rows
from tests.samples import BIG
from tests.terms import NO_WORDS

# Each value is below the next one.
VALUES = [-BIG, -10, -9, -1, 0, 1, 2, 9, 10, BIG, "a", "aa", "ab", "abc", "b", "ba", "z", "za", "zz"]

# Each row is below the next one.
ROWS = [
    (),
    (-5,),
    (-5, 0),
    (-5, "a"),
    (-5, "a", -1),
    (2,),
    (2, 10),
    (10,),
    (10, 2),
    ("a",),
    ("a", -1),
    ("a", 3),
    ("a", 3, "z"),
    ("a", 20),
    ("a", "a"),
    ("a", "a", "a"),
    ("a", "aa"),
    ("a", "b"),
    ("aa",),
    ("aa", 0),
    ("ab",),
    ("b",),
    ("b",) * 7,
    ("b",) * 8,
]


class WordTest(unittest.TestCase):
    def test_words(self):
        for text in ["a", "z", "m", "abc", "tea", "zzzz", "none", "if", "a" * 20000, "abcdefghijklmnopqrstuvwxyz"]:
            self.assertIs(is_word(text), True)

    def test_what_is_no_word(self):
        for text in NO_WORDS:
            with self.subTest(text=text):
                self.assertIs(is_word(text), False)

    def test_each_ascii_character(self):
        for code in range(128):
            letter = chr(code)
            expected = letter in "abcdefghijklmnopqrstuvwxyz"
            for text in (letter, "a" + letter, letter + "a", "a" + letter + "a"):
                self.assertIs(is_word(text), expected)


class RowTest(unittest.TestCase):
    def test_rows(self):
        for row in ROWS + [(0,), (-BIG,), ("tea", 0, "b"), (1, 2, 3, 4, 5, 6, 7, 8), tuple("abcdefgh")]:
            with self.subTest(row=row):
                self.assertIs(is_row(row), True)

    def test_more_than_eight_values(self):
        for row in [(1,) * 9, tuple("abcdefghi"), (0,) * 100]:
            self.assertIs(is_row(row), False)

    def test_strings_that_are_no_words(self):
        for text in NO_WORDS:
            for row in [(text,), ("a", text), (text, "a"), (1, text, 2), (0,) * 7 + (text,)]:
                with self.subTest(row=row):
                    self.assertIs(is_row(row), False)


class OrderTest(unittest.TestCase):
    def test_compare_values(self):
        for (low, left), (high, right) in itertools.product(enumerate(VALUES), repeat=2):
            expected = 0 if low == high else -1 if low < high else 1
            result = compare_values(left, right)
            self.assertIs(type(result), int)
            self.assertEqual(result, expected, (left, right))

    def test_sorted_rows(self):
        self.assertEqual(sorted_rows([]), [])
        self.assertEqual(sorted_rows(list(ROWS)), ROWS)
        self.assertEqual(sorted_rows(ROWS[::-1]), ROWS)
        for seed in range(20):
            rows = ROWS * 2
            random.Random(seed).shuffle(rows)
            self.assertEqual(sorted_rows(rows), ROWS)

    def test_the_same_row_several_times(self):
        self.assertEqual(sorted_rows([("a", 1)] * 5), [("a", 1)])
        self.assertEqual(sorted_rows([(2,), (), (2,), (1,), ()]), [(), (1,), (2,)])

    def test_each_two_rows(self):
        for low, high in itertools.combinations(ROWS, 2):
            self.assertEqual(sorted_rows([high, low]), [low, high])
            self.assertEqual(sorted_rows([low, high, low]), [low, high])

    def test_the_lists_are_apart(self):
        rows = [("b",), (1,), ("b",), (1,)]
        result = sorted_rows(rows)
        self.assertIs(type(result), list)
        self.assertEqual(rows, [("b",), (1,), ("b",), (1,)])
        result.append((9,))
        self.assertEqual(rows, [("b",), (1,), ("b",), (1,)])
        rows.clear()
        self.assertEqual(result, [(1,), ("b",), (9,)])
        again = [(1,), ("b",)]
        self.assertIsNot(sorted_rows(again), again)
        self.assertEqual(sorted_rows(again), again)


if __name__ == "__main__":
    unittest.main()
