"""Points 2, 4 and 5: words and lines."""

import itertools
import time
import unittest

from handed import asked, asked_twice
from loggather.words import in_order, is_line, kind_of, words_of
from things import anything

SIGNS = [chr(number) for number in range(33, 127) if number != 37]
FIGURES = "0123456789"
LETTERS = "abcdefghijklmnopqrstuvwxyz"


class Kinds(unittest.TestCase):
    def told(self, kind, words):
        for word in words:
            with self.subTest(word=word):
                self.assertEqual(asked(self, kind_of, word), kind)

    def test_numbers(self):
        self.told("number", ["0", "7", "007", "1234567890", "-0", "-7", "-007", "-1234567890"])

    def test_names(self):
        self.told("name", ["a", "z", "az", LETTERS, "name", "number", "other", "any"])

    def test_others(self):
        self.told("other", ["A", "Z", "aB", "Ab", "a1", "1a", "a-b", "a_b", "1.5", "1,000", "+7", "a=7",
                            "<any>", "=", "!", "~", "/usr/bin", "10:20", "{", "`", "/", ":"])

    def test_minus(self):
        self.told("other", ["-", "--", "--7", "7-", "1-2", "-7-", "-a", "a-", "-A", "-7a", "-.7"])

    def test_each_sign_by_itself(self):
        for sign in SIGNS:
            kind = "number" if sign in FIGURES else "name" if sign in LETTERS else "other"
            with self.subTest(sign=sign):
                self.assertEqual(kind_of(sign), kind)

    def test_each_sign_beside_others(self):
        for sign in SIGNS:
            with self.subTest(sign=sign):
                self.assertEqual(kind_of("a" + sign), "name" if sign in LETTERS else "other")
                self.assertEqual(kind_of(sign + "a"), "name" if sign in LETTERS else "other")
                self.assertEqual(kind_of("7" + sign), "number" if sign in FIGURES else "other")
                self.assertEqual(kind_of(sign + "7"), "number" if sign in FIGURES + "-" else "other")
                self.assertEqual(kind_of("-" + sign), "number" if sign in FIGURES else "other")

    def test_long_words(self):
        self.told("number", ["7" * 2000, "-" + "7" * 1999])
        self.told("name", ["a" * 2000])
        self.told("other", ["a" * 1999 + "7", "7" * 1999 + "a", "-" * 2000])


class Lines(unittest.TestCase):
    def test_lines(self):
        for line in ["a", "7", "-", "!", "~", "a b", "user 7 logged in", "<any> = {}", "a" * 2000, "a a a a"]:
            with self.subTest(line=line):
                self.assertIs(asked(self, is_line, line), True)

    def test_number_of_words(self):
        for many in range(1, 13):
            self.assertIs(is_line(" ".join(["a"] * many)), True, many)
        for many in (13, 14, 24, 1000):
            self.assertIs(is_line(" ".join(["a"] * many)), False, many)

    def test_blanks(self):
        for text in ["", " ", "  ", " a", "a ", " a ", "a  b", "a b  c", "a b ", " a b", "a   b"]:
            with self.subTest(text=text):
                self.assertIs(asked(self, is_line, text), False)

    def test_other_signs(self):
        for sign in ["\n", "\r", "\r\n", "\t", "%", "\x00", "\x1f", "\x7f", "\x0b"]:
            for text in [sign, "a" + sign, sign + "a", "a" + sign + "b", "a " + sign, "a " + sign + " b",
                         "a" + sign + " b", "a b" + sign]:
                with self.subTest(text=text):
                    self.assertIs(asked(self, is_line, text), False)

    def test_each_sign_of_a_word(self):
        for sign in SIGNS:
            self.assertIs(is_line(sign), True, sign)
            self.assertIs(is_line("a " + sign + "b"), True, sign)

    def test_each_place_of_a_wrong_word(self):
        for many in range(1, 13):
            for at in range(many):
                words = ["a"] * many
                words[at] = "a\n"
                self.assertIs(is_line(" ".join(words)), False)

    def test_of_anything(self):
        for thing in anything():
            self.assertIs(asked(self, is_line, thing), thing in ("a", "a b", "word", "hole", "number", "name",
                                                                  "any", "7"), repr(thing))

    def test_lists_and_tuples_of_lines(self):
        for thing in [["a"], ("a",), ["a", "b"], [["a"]], [["a"], ("b",)], ["a", " ", "b"]]:
            self.assertIs(asked(self, is_line, thing), False)


class Words(unittest.TestCase):
    def test_words(self):
        self.assertEqual(asked_twice(self, words_of, "a"), ["a"])
        self.assertEqual(asked_twice(self, words_of, "user 7 logged in"), ["user", "7", "logged", "in"])
        self.assertEqual(asked_twice(self, words_of, "a a -7 a"), ["a", "a", "-7", "a"])

    def test_twelve(self):
        words = [str(at) for at in range(12)]
        self.assertEqual(words_of(" ".join(words)), words)


class Order(unittest.TestCase):
    def in_this_order(self, lines):
        for shown in (lines, lines[::-1], lines[1::2] + lines[::2], lines[::2] + lines[1::2]):
            self.assertEqual(asked_twice(self, in_order, list(shown)), lines)

    def test_none_and_one(self):
        self.in_this_order([])
        self.in_this_order(["a b"])

    def test_fewer_words_first(self):
        self.in_this_order(["zzzz", "b b", "a a a", " ".join(["a"] * 12)])

    def test_shorter_words_first(self):
        self.in_this_order(["z", "aa", "zz", "aaa"])
        self.in_this_order(["9", "10", "100"])
        self.in_this_order(["a zz", "b a", "aa a"])

    def test_words_of_one_length_as_texts(self):
        self.in_this_order(["!", "-", "0", "9", "=", "A", "Z", "a", "z", "~"])
        self.in_this_order(["-1", "10", "A1", "a1", "aZ", "aa"])

    def test_the_first_word_goes_first(self):
        self.in_this_order(["a b z", "a c a", "b a a"])
        self.in_this_order(["a a a", "a a b", "a a aa", "a b a", "a aa a"])

    def test_signs_below_the_letters_do_not_mix_words(self):
        # As whole texts these would compare otherwise, for ! is behind the blank.
        self.in_this_order(["a z", "a! a"])
        self.in_this_order(["b a", "a! a"])

    def test_lines_told_twice_stay(self):
        self.in_this_order(["a", "a", "b", "b", "b", "a a", "a a"])

    def test_all_of_small_lines(self):
        words = ["a", "b", "7", "aa", "-7"]
        lines = [" ".join(one) for many in (1, 2) for one in itertools.product(words, repeat=many)]

        def key(line):
            return (line.count(" "), [(len(word), word) for word in line.split(" ")])

        told = in_order(lines)
        self.assertEqual(sorted(told), sorted(lines))
        for one, other in zip(told, told[1:]):
            self.assertLess(key(one), key(other))

    def test_sixty(self):
        self.in_this_order([str(number) for number in range(60)])
        self.in_this_order(["a"] * 30 + ["b"] * 30)

    def test_a_new_list(self):
        for lines in ([], ["a"], ["a", "b"]):
            self.assertIsNot(in_order(lines), lines)


class Soon(unittest.TestCase):
    def test_long_texts(self):
        start = time.monotonic()
        texts = ["a" * 1990 + str(number) for number in range(60)]
        for text in texts + ["a " * 1000, " " * 2000, "\n" * 2000]:
            is_line(text)
            kind_of(text)
        in_order(texts)
        self.assertLess(time.monotonic() - start, 10)


if __name__ == "__main__":
    unittest.main()
