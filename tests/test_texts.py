"""Points 2 and 20: texts of patterns."""

import itertools
import random
import re
import time
import unittest

from handed import asked, asked_twice, is_own, refused
from loggather.errors import NoText
from loggather.patterns import is_pattern
from loggather.texts import read_pattern, show_pattern
from loggather.words import WORD_SIGNS

NUMBER = ("hole", "number")
NAME = ("hole", "name")
ANY = ("hole", "any")

# What one part is written as: a hole, a word as it is, or a word that begins with < or = and has a = ahead.
ONE = re.compile(r"<(number|name|any)>|[!-;>-~]+[!-~]*|=[<=][!-~]*")


def w(word):
    return ("word", word)


# Patterns beside what is written of them.
WRITTEN = [
    ([w("a")], "a"),
    ([NUMBER], "<number>"),
    ([NAME], "<name>"),
    ([ANY], "<any>"),
    ([w("user"), NUMBER, w("is"), NAME, ANY], "user <number> is <name> <any>"),
    ([w("number")], "number"),
    ([w("<number>")], "=<number>"),
    ([w("<any>"), ANY], "=<any> <any>"),
    ([w("<")], "=<"),
    ([w("<x")], "=<x"),
    ([w("=")], "=="),
    ([w("==")], "==="),
    ([w("=a")], "==a"),
    ([w("=<any>")], "==<any>"),
    ([w("a=b"), w("a<b"), w("a=")], "a=b a<b a="),
    ([w(">"), w("any>"), w("|"), w("-7")], "> any> | -7"),
    ([w("a"), w("a"), ANY, ANY], "a a <any> <any>"),
    ([ANY] * 12, " ".join(["<any>"] * 12)),
    ([w("=")] * 12, " ".join(["=="] * 12)),
    ([w("a" * 2000)], "a" * 2000),
]

# What is written of no pattern.
WRONG = [
    "", " ", "  ", "\n", "a\n", "\na", "a\nb", " a", "a ", "a  b", "<any> ", " <any>", "<any>  <any>",
    "<", "<>", "<a>", "<other>", "<word>", "<hole>", "<Any>", "<ANY>", "<any", "<any>>", "<<any>", "<<any>>", "<any>a",
    "<anyx", "<numberx", "<name", "<name>s", "<any><any>", "< any>", "<any >", "<number>\n", "<numbe>", "<nam>",
    "=", "=a", "=any", "=>", "=7", "=-", "= =", "=\n", "=<\n", "== =", "= <any>", "a =b", "=a <any>", "a <b", "a <",
    "==\n", "<any>=", "<=any>", "a <any> <no>",
    " ".join(["a"] * 13), " ".join(["<any>"] * 13), " ".join(["a"] * 1000), "a\r", "a\r\n", "a" * 1999 + "\n",
]


class Shown(unittest.TestCase):
    def test_patterns(self):
        for pattern, text in WRITTEN:
            with self.subTest(pattern=pattern):
                told = asked(self, show_pattern, pattern)
                self.assertEqual(told, text)
                self.assertIs(type(told), str)

    def test_only_the_first_sign_counts(self):
        for sign in WORD_SIGNS:
            ahead = "=" if sign in "<=" else ""
            for word in (sign, sign + "a", sign + "<", sign + "="):
                self.assertEqual(show_pattern([w(word)]), ahead + word)
            self.assertEqual(show_pattern([w("a" + sign)]), "a" + sign)


class Read(unittest.TestCase):
    def test_patterns(self):
        for pattern, text in WRITTEN:
            with self.subTest(text=text):
                told = asked_twice(self, read_pattern, text)
                self.assertEqual(told, pattern)
                self.assertTrue(is_pattern(told))
                self.assertTrue(is_own(told))
                self.assertEqual([type(part) for part in told], [tuple] * len(pattern))

    def test_what_is_written_of_none(self):
        for text in WRONG:
            with self.subTest(text=text):
                refused(self, NoText, read_pattern, text)

    def test_number_of_parts(self):
        for part in ("a", "<any>", "=="):
            for many in range(1, 13):
                self.assertEqual(len(read_pattern(" ".join([part] * many))), many)
            for many in (13, 14, 60):
                refused(self, NoText, read_pattern, " ".join([part] * many))

    def test_each_sign_by_itself(self):
        for code in range(32, 127):
            sign = chr(code)
            for text in (sign, "a" + sign, sign + "a", "=" + sign, "=<" + sign, "<" + sign):
                if sign != "%":
                    self.look_at(text)

    def test_signs_that_no_word_has(self):
        for text in ("\t", "a\tb", "%", "a%", "=<%", "\x7f", "\xe9", "a\x00"):
            refused(self, NoText, read_pattern, text)

    def test_all_short_texts(self):
        for many in range(0, 7):
            for signs in itertools.product("<=a \n" if many < 6 else "<= a", repeat=many):
                self.look_at("".join(signs))

    def test_texts_of_pieces(self):
        chance = random.Random(50)
        pieces = ["<", ">", "=", " ", "any", "number", "name", "<any>", "<name>", "<number>", "a", "=<", "\n", "7"]
        for trial in range(5000):
            self.look_at("".join(chance.choice(pieces) for piece in range(chance.randint(1, 6))))

    def look_at(self, text):
        if all(ONE.fullmatch(piece) for piece in text.split(" ")):
            self.assertEqual(show_pattern(read_pattern(text)), text)
        else:
            refused(self, NoText, read_pattern, text)

    def test_back_and_forth(self):
        chance = random.Random(51)
        words = ["a", "<", "=", "<any>", "=<any>", "==", "any", "7", "-7", "X<", "|", ">", "=a", "<number>", "~"]
        parts = [w(word) for word in words] + [NUMBER, NAME, ANY]
        for trial in range(2000):
            pattern = [chance.choice(parts) for place in range(chance.randint(1, 12))]
            text = asked(self, show_pattern, pattern)
            self.assertEqual(asked(self, read_pattern, text), pattern)

    def test_no_two_patterns_are_written_alike(self):
        words = ["".join(signs) for many in (1, 2, 3) for signs in itertools.product("<=a", repeat=many)]
        parts = [w(word) for word in words] + [w("<any>"), w("=<any>"), NUMBER, NAME, ANY]
        patterns = [[part] for part in parts] + [[one, other] for one in parts for other in parts]
        self.assertEqual(len({show_pattern(pattern) for pattern in patterns}), len(patterns))

    def test_soon(self):
        start = time.monotonic()
        for text in ("=" * 2000, "<" * 2000, " " * 2000, "a " * 1000, "=" + "<any>" * 399):
            for time_over in range(20):
                try:
                    read_pattern(text)
                except NoText:
                    pass
        self.assertLess(time.monotonic() - start, 20)


if __name__ == "__main__":
    unittest.main()
