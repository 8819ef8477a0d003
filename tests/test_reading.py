"""Reading the texts of questions: [22], [23]."""

import random
import unittest

from anyworth.errors import BadText, NoQuestion, WorthError
from anyworth.questions import check_question
from anyworth.reading import read_question
from anyworth.writing import write_question
from tests.terms import val, var
from tests.test_writing import WRITTEN

X, Y, Z = var("x"), var("y"), var("z")
# The characters that begin no token wherever they stand.
STRANGE = [chr(code) for code in range(128) if chr(code) not in 'abcdefghijklmnopqrstuvwxyz0123456789 (),;-"']


def fault_of(question):
    """Return the index of the first join that is not valid, None, or "valid"."""
    try:
        check_question(question)
    except NoQuestion as error:
        return error.join
    return "valid"


VALID = [(question, text) for question, text in WRITTEN if fault_of(question) == "valid"]
INVALID = [(question, text) for question, text in WRITTEN if fault_of(question) != "valid"]


class ReadingCase(unittest.TestCase):
    def check_bad(self, text, at):
        with self.subTest(text=text):
            with self.assertRaises(BadText) as caught:
                read_question(text)
            self.assertIsInstance(caught.exception, WorthError)
            self.assertEqual(caught.exception.at, at)

    def check_no_question(self, text, join):
        with self.subTest(text=text):
            with self.assertRaises(NoQuestion) as caught:
                read_question(text)
            self.assertEqual(caught.exception.join, join)

    def check_at_mark(self, marked):
        """Check that the text without its "@" is bad at the place of the "@"."""
        self.check_bad(marked.replace("@", ""), marked.index("@"))


class ReadTest(ReadingCase):
    def test_the_written_form(self):
        self.assertGreater(len(VALID), 20)
        for question, text in VALID:
            with self.subTest(text=text):
                self.assertEqual(read_question(text), question)
                self.assertEqual(write_question(read_question(text)), text)

    def test_results_are_tuples(self):
        question = read_question('(x) if a(x, 1) and b("c"); (3) if true')
        self.assertEqual(question, (1, (((X,), (("a", (X, val(1))), ("b", (val("c"),)))), ((val(3),), ()))))
        width, joins = question
        self.assertIs(type(joins), tuple)
        for head, body in joins:
            self.assertIs(type(head), tuple)
            self.assertIs(type(body), tuple)
            for _, terms in body:
                self.assertIs(type(terms), tuple)

    def test_more_spaces(self):
        spread = '  (  x  ,  -3  )   if   likes  (  x  ,  "tea"  )  and  b  (  )  ;  (  1 , 2 )  if  true  '
        plain = '(x, -3) if likes(x, "tea") and b(); (1, 2) if true'
        self.assertEqual(read_question(spread), read_question(plain))
        self.assertEqual(read_question("   none    3  "), (3, ()))
        self.assertEqual(read_question("  (  )  if  true  ;(  )  if  true  (  )  "),
                         (0, (((), ()), ((), (("true", ()),)))))

    def test_no_spaces(self):
        self.assertEqual(read_question('(x,-3)if likes(x,"tea")and b();(1,2)if true'),
                         read_question('(x, -3) if likes(x, "tea") and b(); (1, 2) if true'))
        self.assertEqual(read_question("none3"), (3, ()))
        self.assertEqual(read_question("()if true;()if a()"), (0, (((), ()), ((), (("a", ()),)))))
        self.assertEqual(read_question("()if true"), (0, (((), ()),)))

    def test_spaces_at_random(self):
        chance = random.Random(5)
        tokens = ["(", "x", ",", '"x"', ",", "-12", ")", "if", "true", "(", "x", ",", "0", ")", "and", "true", "(", ")",
                  ";", "(", "1", ",", "2", ",", "3", ")", "if", "true"]
        expected = read_question(" ".join(tokens))
        for _ in range(200):
            text = ""
            for token in tokens:
                touches = bool(text) and text[-1].isalpha() and token[0].isalpha()
                text += " " * (chance.randrange(3) + touches) + token
            self.assertEqual(read_question(text), expected)

    def test_words_of_the_form_as_names_and_variables(self):
        self.assertEqual(read_question("(if) if if(if)"), (1, (((var("if"),), (("if", (var("if"),)),)),)))
        self.assertEqual(read_question("() if true (true)"), (0, (((), (("true", (var("true"),)),)),)))
        self.assertEqual(read_question("() if and() and and(and)"), (0, (((), (("and", ()), ("and", (var("and"),)))),)))
        self.assertEqual(read_question("() if and() and true()"),
                         (0, (((), (("and", ()), ("true", ()))),)))
        head = (var("none"),)
        self.assertEqual(read_question("(none) if none(none); (none) if a(none)"),
                         (1, ((head, (("none", head),)), (head, (("a", head),)))))

    def test_integers(self):
        sixty = "9" * 60
        for text, value in [("0", 0), ("5", 5), ("10", 10), ("-1", -1), ("-10", -10), ("100", 100),
                            (sixty, int(sixty)), ("-" + sixty, -int(sixty))]:
            self.assertEqual(read_question(f"({text}) if a({text}, {text})"),
                             (1, (((val(value),), (("a", (val(value), val(value))),)),)))

    def test_long_texts(self):
        text = "() if a(" + "x" * 10000 + ")"
        self.assertEqual(read_question(text), (0, (((), (("a", (var("x" * 10000),)),)),)))
        self.assertEqual(read_question(" " * 19990 + "none 0"), (0, ()))
        self.check_no_question("() if " + " and ".join(["a()"] * 2400), 0)


class BadTokenTest(ReadingCase):
    def test_strange_characters(self):
        for character in STRANGE:
            self.check_bad(character, 0)
            self.check_bad("   " + character, 3)
            self.check_bad(f"(x{character}) if a(x)", 2)
            self.check_bad(f"(x) if a(x){character}", 11)
            self.check_bad(f"(x) if a(x) {character} and", 12)
            self.check_bad(f"none 1{character}", 6)
            self.check_bad(f"none{character}1", 4)
            self.check_bad(f"() if true{character}", 10)

    def test_line_feeds_and_tabs_are_no_spaces(self):
        self.check_at_mark("(x)@\nif a(x)")
        self.check_at_mark("(x)@\tif a(x)")
        self.check_at_mark("(x) if a(x)@\n")
        self.check_at_mark("@\n(x) if a(x)")

    def test_quotes(self):
        for quoted in ('"', '""', '"a', '"a b"', '" a"', '"a "', '"A"', '"aB"', '"a1"', '"1"', '"-"', '"a\n"', '"a,'):
            self.check_bad(f"(x) if a(x, {quoted}", 12)
            self.check_bad(f"(x) if a(x, {quoted})", 12)
            self.check_bad(f"(x) if a(x, {quoted}, y) and b(\"c\")", 12)
            self.check_bad(quoted, 0)

    def test_a_minus_without_digits(self):
        for minus in ("-", "- 1", "--1", "-a", "-)", '-"a"', "-,"):
            self.check_bad(f"({minus}) if true", 1)
            self.check_bad(f"(1, {minus}) if true", 4)
        self.check_at_mark("(1@-) if true")
        self.check_at_mark("none @-")

    def test_needless_leading_zeros(self):
        for digits in ("00", "07", "-0", "-07", "-00", "000", "01", "010", "-010", "0000000000"):
            self.check_bad(f"({digits}) if true", 1)
            self.check_bad(f"(1, {digits}) if true", 4)
            self.check_bad(f"() if a(x, {digits}) and b()", 11)
            self.check_bad(f"none {digits}", 5)
            self.check_bad(digits, 0)

    def test_whichever_comes_first(self):
        self.check_at_mark("(x) @a(x) $")
        self.check_at_mark("(x@$) a(x)")
        self.check_at_mark('(x) if a(x @"b") "')
        self.check_at_mark("(x) if a(x@\") \"b\" c")
        self.check_at_mark("(x, @) if 00")
        self.check_at_mark("(x, @00) if )")
        self.check_at_mark("none @none $")
        self.check_at_mark("none 3 @3 00")


class BadPlaceTest(ReadingCase):
    def test_a_token_that_does_not_fit(self):
        for marked in [
            # At the beginning.
            "@x", "@if", "@true", '@"none"', "@)", "@,", "@;", "@3", "@-3", '@"a"', "@nonex 3", "@and none 1",
            # In a head.
            "(@(", "(@,", "(@;", "(x @y", "(x @(", "(x @;", "(x @3", '(x @"a"', "(x, @,", "(x, @)", "(x, @;", "(x, @(",
            "(3@-3)", "(3 @3)", "(x@3)", '("a"@"b")', '("a"@b)',
            # Behind a head.
            "() @(", "() @)", "() @,", "() @;", "() @3", '() @"if"', "() @true", "() @none", "() @and", "() @iff a()",
            # Behind "if".
            "() if @(", "() if @)", "() if @,", "() if @;", "() if @3", '() if @"a"', '() if @"true"', "() if @-1",
            # Behind a name.
            "() if a @b", "() if a @)", "() if a @,", "() if a @;", "() if a @3", '() if a @"b"', "() if a @and b()",
            "() if if @if()", "() if and @and()", "() if none @0",
            # Behind "true".
            "() if true @)", "() if true @,", "() if true @3", '() if true @"a"', "() if true @a", "() if true @and",
            "() if true @true", "() if true @if",
            # In an atom.
            "() if a(@(", "() if a(@,", "() if a(@;", "() if a(x @y", "() if a(x @(", "() if a(x @;", "() if a(x @3",
            '() if a(x @"b"', "() if a(x, @)", "() if a(x, @,", "() if a(x, @(", "() if a(x, @;",
            # Behind an atom.
            "() if a() @(", "() if a() @)", "() if a() @,", "() if a() @b()", "() if a() @if", "() if a() @3",
            '() if a() @"b"', "() if a() @true", "() if a() @none 3", "() if a()@)",
            # Behind "and".
            "() if a() and @(", "() if a() and @)", "() if a() and @,", "() if a() and @;", "() if a() and @3",
            '() if a() and @"b"', "() if a() and and @and", "() if a() and true @;", "() if a() and true @and b()",
            "() if a() and true @true",
            # Behind ";".
            "() if a(); @)", "() if a(); @,", "() if a(); @;", "() if a(); @a()", "() if a(); @3", '() if a(); @"b"',
            "() if a(); @none 0", "() if true; @true", "() if true; @if",
            # Behind "none".
            "none @(", "none @)", "none @,", "none @;", "none @x", 'none @"a"', "none @none", "none @if", "none @-1",
            "none @-3", "none@-12", "none @(x) if a(x)",
            # Behind a whole text.
            "none 3 @;", "none 3 @4", "none 3@-4", "none 3 @none 3", "none 3 @()", "none 3 @if", "none 3 @and",
            "() if true () @if true", "() if a() @() if a()",
        ]:
            self.check_at_mark(marked)
            self.check_at_mark(marked + " ")
            self.check_at_mark(marked + "$")
            self.check_at_mark(marked + " x")

    def test_heads_with_more_or_fewer_terms(self):
        for marked in [
            "(x) if a(x); (@) if true",
            "(x) if a(x); (x@, y) if a(x, y)",
            "(x) if a(x); (x@,) if a(x)",
            "() if true; (@x) if a(x)",
            "() if true; (@3) if true",
            '() if true; (@"a") if true',
            "() if true; (@,",
            "(1, 2) if true; (@) if true",
            "(1, 2) if true; (1@) if true",
            "(1, 2) if true; (1, @) if true",
            "(1, 2) if true; (1, 2@, 3) if true",
            "(1, 2) if true; (1, 2 @3) if true",
            "(1, 2) if true; (3, 4) if true; (1@) if true",
            "(1, 2, 3) if true; (1, 2@) if true",
            "() if true; () if true; () if true; (@0) if true",
        ]:
            self.check_at_mark(marked)
        self.assertEqual(read_question("(1, 2) if true; (3, 4) if true; (5, 6) if true")[0], 2)

    def test_texts_that_end_too_early(self):
        for text in ["", "(", "(x", "(x,", "(x, y", "()", "(x)", "() if", "() if a", "() if true(", "() if true(x",
                     "() if a(", "() if a(x", "() if a(x,", "() if a(x, y", "() if a(x) and", "() if a(x) and b",
                     "() if a(x) and b(", "() if true;", "() if true; (", "() if true; ()", "() if true; () if",
                     "(x) if a(x);", "(x) if a(x); (", "(x) if a(x); (x", "(x) if a(x); (x)", "(1, 2) if true; (1",
                     "(1, 2) if true; (1,", "(1, 2) if true; (1, 2", "none", "() if a() and true", "() if if",
                     "() if and", '("a"', "(-3", "() if none", "(true"]:
            for spaces in range(4):
                self.check_bad(text + " " * spaces, len(text) + spaces)
                self.check_bad(" " * spaces + text, len(text) + spaces)

    def test_each_beginning_of_a_text(self):
        text = '(x, "ab") if likes(x, 3) and true(); (-1, y) if b(y)'
        whole = (24, 25, 35, 52)
        partly = {5: 4, 6: 4, 7: 4, 11: 10, 26: 25, 27: 25, 39: 38, 46: 45}
        self.assertEqual(len(text), whole[-1])
        for index in range(len(text) + 1):
            if index in whole:
                self.assertEqual(len(read_question(text[:index])[1]), 2 if index == whole[-1] else 1)
            else:
                # A word that is not whole does not fit, and a quote or a minus alone begins no token.
                self.check_bad(text[:index], partly.get(index, index))


class NoQuestionTest(ReadingCase):
    def test_written_questions_that_are_not_valid(self):
        self.assertGreater(len(INVALID), 5)
        for question, text in INVALID:
            self.check_no_question(text, fault_of(question))

    def test_widths(self):
        for width in (9, 10, 99, 10 ** 59):
            self.check_no_question(f"none {width}", None)
        self.check_no_question("(" + ", ".join("123456789") + ") if true", None)

    def test_too_many_joins(self):
        self.check_no_question("; ".join(["() if true"] * 13), None)
        self.check_no_question("; ".join(["(x) if true"] * 13), None)
        self.assertEqual(len(read_question("; ".join(["() if true"] * 12))[1]), 12)

    def test_the_least_index(self):
        self.check_no_question("(x) if true", 0)
        self.check_no_question("(x) if a(x); (x) if true; (y) if a(x)", 1)
        self.check_no_question("(x) if a(x); (x) if b(x); (y) if a(x)", 2)
        self.check_no_question("() if " + " and ".join(["a()"] * 9), 0)
        self.check_no_question("() if true; () if a(" + ", ".join("123456789") + ")", 1)

    def test_bad_texts_come_first(self):
        self.check_at_mark("(x) if true@$")
        self.check_at_mark("(x) if true; (@) if true")
        self.check_at_mark("none 9 @9")
        self.check_bad("; ".join(["() if true"] * 13) + ";", 10 * 13 + 2 * 12 + 1)


if __name__ == "__main__":
    unittest.main()
