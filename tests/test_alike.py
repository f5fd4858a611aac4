"""Points 2, 3, 18 and 19: two lists of patterns."""

import itertools
import random
import time
import unittest

from handed import asked, asked_twice, is_own
from loggather.alike import parting_line, without_needless
from loggather.patterns import fits
from loggather.texts import read_pattern
from loggather.words import is_line
from model_alike import NAMED, needed, parting

PARTS = [("word", word) for word in NAMED] + [("hole", kind) for kind in ("number", "name", "any")] * 3


def p(*texts):
    """Patterns, each from a text of point 20."""
    return [read_pattern(text) for text in texts]


def knows(patterns, line):
    return any(fits(pattern, line) for pattern in patterns)


def some_pattern(chance, many):
    return [chance.choice(PARTS) for place in range(many)]


def nearly(chance, patterns):
    """Another list of patterns that is often alike, or nearly."""
    told = [list(pattern) for pattern in patterns if chance.random() < 0.9]
    chance.shuffle(told)
    for pattern in list(told):
        if chance.random() < 0.3:
            narrower = list(pattern)
            narrower[chance.randrange(len(pattern))] = chance.choice(PARTS)
            told.append(narrower)
    return told[:8]


class PartingLine(unittest.TestCase):
    def hold(self, one, other, line):
        """Both ways, and each list behind itself."""
        for left, right in ((one, other), (other, one), (one + one, other), (other, one[::-1])):
            with self.subTest(left=left, right=right):
                told = asked(self, parting_line, left, right)
                self.assertEqual(told, line)
                if line is not None:
                    self.assertIs(type(told), str)
                    self.assertTrue(is_line(told))
                    self.assertNotEqual(knows(left, told), knows(right, told))

    def test_empty_lists(self):
        self.assertIsNone(parting_line([], []))
        self.hold([], p("<any>"), "!")
        self.hold([], p("<number>"), "0")
        self.hold([], p("<name>"), "a")
        self.hold([], p("up"), "up")
        self.hold([], p("up <number> <name> <any>"), "up 0 a !")

    def test_alike(self):
        for one, other in [
                (p("a"), p("a")), (p("a", "b"), p("b", "a")), (p("<any>"), p("<any>", "<number>", "<name>", "a", "X")),
                (p("a <number>", "b"), p("b", "a 7", "a <number>", "a -7")), (p("<name>"), p("abc", "<name>")),
                (p("<any> <any>", "a"), p("a", "<number> <any>", "<any> <name>", "<any> <any>", "X X"))]:
            self.hold(one, other, None)

    def test_one_within_the_other(self):
        self.hold(p("<any>"), p("<number>"), "!")
        self.hold(p("<any>"), p("<number>", "<name>"), "!")
        self.hold(p("<any>"), p("!"), '"')
        self.hold(p("<number>"), p("7"), "0")
        self.hold(p("<number>"), p("0"), "1")
        self.hold(p("<name>"), p("a", "c"), "b")
        self.hold(p("up <number>"), p("up 0", "up 1"), "up 2")
        self.hold(p("up <number>", "up"), p("up <number>"), "up")

    def test_each_has_lines_alone(self):
        self.hold(p("a"), p("b"), "a")
        self.hold(p("b"), p("aa"), "b")
        self.hold(p("<number>"), p("<name>"), "0")
        self.hold(p("ab <number>"), p("b <any>"), "b !")
        self.hold(p("a b"), p("c"), "c")
        self.hold(p("a", "b b", "z z z"), p("a", "b b", "c c c"), "c c c")
        self.hold(p("zz <any>"), p("a a a"), "zz !")

    def test_by_the_number_of_words_first(self):
        self.hold(p("! !"), p("zzz"), "zzz")
        self.hold(p("<any> <any>"), p("<any> <any> <any>"), "! !")
        self.hold(p("b"), p("b", "! " * 11 + "!"), " ".join("!" * 12))

    def test_by_the_first_word_first(self):
        self.hold(p("a zz"), p("b a"), "a zz")
        self.hold(p("a b zz"), p("a c !"), "a b zz")

    def test_by_the_number_of_signs_first(self):
        self.hold(p("aa"), p("z"), "z")
        self.hold(p("z 10"), p("z 9"), "z 9")
        self.hold(p("!!"), p("~"), "~")

    def test_of_as_many_signs_as_texts_compare(self):
        self.hold(p("-1"), p("00"), "-1")
        self.hold(p("a"), p("A"), "A")
        self.hold(p("0"), p("~"), "0")
        self.hold(p("b"), p("0"), "0")

    def test_words_that_are_named_are_gone_by(self):
        self.hold(p("<number>"), p("0", "1", "2", "3", "4", "5", "6", "7"), "8")
        self.hold(p("<name>"), p("a", "b", "c", "d", "e", "f", "g", "h"), "i")
        self.hold(p("<number>"), p("0", "2", "3"), "1")
        self.hold(p("<any>"), p("!", '"', "#", "$", "&", "'", "(", ")"), "*")
        self.hold(p("<any>"), p("!", '"', "#", "$"), "&")
        self.hold(p("<any>", "a"), p("!", "a"), '"')

    def test_no_word_has_a_percent_sign(self):
        self.assertEqual(parting_line(p("<any>"), p(*'!"#$')), "&")

    def test_kinds_of_the_least_words(self):
        # Only numbers, or only names, are left of a hole of any.
        self.hold(p("<any> a"), p("<any> <name>"), "! b")
        self.hold(p("<number>", "<any> a"), p("<any> a", "<name>"), "0")
        self.hold(p("<any> <number>"), p("<number> <number>", "<name> <number>"), "! 0")

    def test_the_whole_line_counts_and_not_its_words(self):
        self.hold(p("<any> <any>"), p("! <any>"), '" !')
        self.hold(p("<any> <any>"), p("! !"), '! "')
        self.hold(p("<any> <any>"), p("! <any>", '" !'), '" "')
        self.hold(p("<any> <any>"), p("<any> !"), '! "')
        self.hold(p("<any> <any>"), p("<any> !", '! "'), "! #")
        self.hold(p("<name> <number>"), p("a <number>", "b <number>", "c 0", "<name> 1"), "c 2")
        self.hold(p("<number> <any> <name>"), p("0 <any> <name>", "<number> ! a", "1 ! <name>"), '1 " a')

    def test_covered_by_several_but_for_a_few(self):
        self.hold(p("<any> a"), p("<number> a", "<name> a", "! a", '" a'), "# a")
        self.hold(p("x <number> <number>"), p("x 0 <number>", "x 1 <number>", "x <number> 0"), "x 2 1")

    def test_both_lists_hide_what_the_other_has(self):
        self.hold(p("<any> 7", "a <any>"), p("<any> <number>", "a <any>"), "! 0")
        self.hold(p("<number> a", "<name> a", "<any> b"), p("<any> a", "<number> b", "<name> b"), "! a")

    def test_all_twelve_places(self):
        self.hold(p(" ".join(["<any>"] * 12)), p(" ".join(["<any>"] * 11 + ["!"])), " ".join("!" * 11 + '"'))
        self.hold(p(" ".join(["<number>"] * 12)), p(" ".join(["0"] + ["<number>"] * 11)), "1 " + " ".join("0" * 11))
        same = ["a", "<name>", "<number>", "<any>"] * 3
        self.hold(p(" ".join(same)), p(" ".join(same)), None)

    def test_long_words(self):
        self.hold(p("a" * 2000), p("a" * 1999), "a" * 1999)
        self.hold(p("a" * 1999 + "b", "<number>"), p("a" * 2000, "<number>"), "a" * 2000)

    def test_the_same_patterns_several_times(self):
        self.hold(p("a", "a", "a"), p("a"), None)
        self.hold(p("a", "a", "<name>"), p("a"), "b")

    def test_one_list_for_both(self):
        patterns = p("a <any>", "<number>")
        self.assertIsNone(asked(self, parting_line, patterns, patterns))

    def test_against_the_model(self):
        chance = random.Random(40)
        alike = 0
        for trial in range(1500):
            many = chance.randint(1, 3)
            widths = [chance.choice([many, many, many, 1]) for pattern in range(chance.randint(0, 8))]
            one = [some_pattern(chance, width) for width in widths]
            other = nearly(chance, one) if trial % 3 else [some_pattern(chance, many) for pattern in one]
            told = asked(self, parting_line, one, other)
            self.assertEqual(told, parting(one, other), (one, other))
            self.assertEqual(parting_line(other, one), told, (one, other))
            alike += told is None
        self.assertGreater(alike, 100)

    def test_all_small_lists_against_the_model(self):
        parts = [("word", "!"), ("word", "0"), ("word", "a"), ("hole", "number"), ("hole", "name"), ("hole", "any")]
        patterns = [list(pair) for pair in itertools.product(parts, repeat=2)]
        for one in patterns:
            for other in patterns:
                self.assertEqual(parting_line([one], [other]), parting([one], [other]), (one, other))

    def test_more_patterns_than_there_may_be(self):
        self.assertEqual(parting_line(p("<number>"), p(*"0123456789")), "-0")
        self.assertEqual(parting_line(p("<number>"), p("-0", *"0123456789")), "-1")
        self.assertEqual(parting_line(p("<name>"), p(*"abcdefghijklmnopqrstuvwxyz")), "aa")
        self.assertIsNone(parting_line(p(*"abcdefghijkl"), p(*"lkjihgfedcba")))

    def test_soon(self):
        chance = random.Random(41)
        start = time.monotonic()
        for trial in range(10):
            one = [[chance.choice([("hole", "any"), ("hole", "any"), ("word", chance.choice("ab!") * 2000)])
                    for place in range(12)] for pattern in range(8)]
            other = [[chance.choice([part, part, part, ("hole", "any")]) for part in pattern] for pattern in one]
            parting_line(one, other)
            parting_line(one, one + [])
            without_needless(one)
        # A wide pattern, and others that leave many ways to go at each place.
        wide = [("hole", "any")] * 12
        for trial in range(10):
            one = [[("word", chance.choice("!ab")) if chance.random() < 0.4 else ("hole", "any") for place in range(12)]
                   for pattern in range(8)]
            line = parting_line([wide] + one[:7], one)
            self.assertTrue(fits(wide, line))
            self.assertFalse(knows(one, line))
        self.assertLess(time.monotonic() - start, 20)


class WithoutNeedless(unittest.TestCase):
    def hold(self, patterns, told):
        for handed in (patterns, patterns[::-1], patterns + patterns[:1]):
            with self.subTest(handed=handed):
                answer = asked_twice(self, without_needless, handed)
                self.assertEqual(answer, told)
                self.assertTrue(is_own(answer, handed))

    def test_none_at_all(self):
        self.assertEqual(asked_twice(self, without_needless, []), [])

    def test_nothing_is_needless(self):
        self.hold(p("a"), p("a"))
        self.hold(p("a", "b"), p("a", "b"))
        self.hold(p("<number>", "<name>"), p("<number>", "<name>"))
        self.hold(p("a <any>", "<any> a"), p("a <any>", "<any> a"))
        self.hold(p("a", "a <any>"), p("a", "a <any>"))

    def test_in_order(self):
        self.hold(p("<any> a", "b", "aa", "<number>", "<name> <name>"),
                  p("b", "aa", "<number>", "<name> <name>", "<any> a"))

    def test_each_once(self):
        self.hold(p("a", "a", "b", "a"), p("a", "b"))
        self.hold(p("<any>", "<any>"), p("<any>"))

    def test_needless_ones(self):
        self.hold(p("a", "<name>"), p("<name>"))
        self.hold(p("a", "7", "X", "<name>", "<number>", "<any>"), p("<any>"))
        self.hold(p("a 7", "a <number>", "<name> 8", "<name> <any>", "7 7"), p("7 7", "<name> <any>"))
        self.hold(p("7", "<name>", "<any> <any>", "a <any>"), p("7", "<name>", "<any> <any>"))

    def test_several_never_do_it_together(self):
        self.hold(p("<number>", "<name>", "<any>"), p("<any>"))
        self.hold(p("<number> a", "<name> a", "! a", "<any> <any>"), p("<any> <any>"))
        eight = p("0", "1", "2", "3", "4", "5", "6", "<number> <number>")
        self.hold(eight, eight)

    def test_all_twelve_places(self):
        wide = ["a", "<name>", "<number>", "<any>"] * 3
        narrow = ["a", "a", "7", "<number>"] * 3
        beside = ["a", "a", "7", "<number>"] * 2 + ["a", "a", "7", "<any>"]
        self.hold(p(" ".join(wide), " ".join(narrow), " ".join(beside)), p(" ".join(wide)))
        self.hold(p(" ".join(narrow), " ".join(beside)), p(" ".join(beside)))

    def test_against_the_model(self):
        chance = random.Random(42)
        fewer = 0
        for trial in range(800):
            many = chance.randint(1, 3)
            patterns = nearly(chance, [some_pattern(chance, many) for pattern in range(chance.randint(0, 8))])
            told = asked_twice(self, without_needless, patterns)
            self.assertEqual(told, needed(patterns), patterns)
            self.assertTrue(is_own(told, patterns))
            self.assertIsNone(parting_line(told, patterns))
            fewer += len(told) < len(patterns)
        self.assertGreater(fewer, 100)

    def test_more_patterns_than_there_may_be(self):
        self.assertEqual(without_needless(p(*"abcdefghijkl", "<name>", "<any>", "7 7")), p("<any>", "7 7"))


if __name__ == "__main__":
    unittest.main()
