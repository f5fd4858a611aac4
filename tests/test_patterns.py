"""Points 2, 6, 7, 8 and 9: patterns."""

import itertools
import time
import unittest

from handed import asked, asked_twice, is_own, refused
from loggather.errors import NoFit, NoJoin
from loggather.patterns import fillings, filled, fits, is_pattern, is_within, joined, met, ordered
from loggather.words import in_order
from things import anything

NUMBER = ("hole", "number")
NAME = ("hole", "name")
ANY = ("hole", "any")


def w(word):
    return ("word", word)


# Two words of each kind, and one of each for the words that no part has.
WORDS = ["7", "-8", "100", "a", "bc", "other", "X", "-", "a1"]
PARTS = [w("7"), w("-8"), w("a"), w("bc"), w("X"), w("-"), NUMBER, NAME, ANY]

# The words of WORDS that fit each part, written out by hand.
FITTING = {
    w("7"): ["7"], w("-8"): ["-8"], w("a"): ["a"], w("bc"): ["bc"], w("X"): ["X"], w("-"): ["-"],
    NUMBER: ["7", "-8", "100"], NAME: ["a", "bc", "other"], ANY: WORDS,
}


def patterns_of(many):
    return [list(parts) for parts in itertools.product(PARTS, repeat=many)]


def lines_of(pattern):
    """All lines of WORDS that fit a pattern, without the program."""
    return {" ".join(words) for words in itertools.product(*[FITTING[part] for part in pattern])}


class Patterns(unittest.TestCase):
    def test_patterns(self):
        for pattern in [[w("a")], [NUMBER], [NAME], [ANY], [w("user"), NUMBER, w("in")], [w("-")], [w("<any>")],
                        [w("hole"), w("word"), w("any")], [w("a" * 2000)], [ANY, ANY]]:
            with self.subTest(pattern=pattern):
                self.assertIs(asked(self, is_pattern, pattern), True)

    def test_number_of_parts(self):
        self.assertIs(is_pattern([]), False)
        for part in (w("a"), NUMBER, ANY):
            for many in range(1, 13):
                self.assertIs(is_pattern([part] * many), True, many)
            for many in (13, 14, 60):
                self.assertIs(is_pattern([part] * many), False, many)

    def test_wrong_parts(self):
        for part in [(), ("word",), ("hole",), ("word", "a", "b"), ("hole", "any", "any"), ("a", "word"),
                     ("any", "hole"), ["word", "a"], ["hole", "any"], ("words", "a"), ("Word", "a"), ("Hole", "any"),
                     ("hole", "other"), ("hole", "Any"), ("hole", "a"), ("hole", ""), ("hole", "word"),
                     ("hole", "numbe"), ("hole", "number "), ("", "a"), (None, "a"), (0, "a"), (True, "any"),
                     "word", "any", "ab", 7, True, None, ("hole", None), ("hole", 0), ("hole", ["any"]),
                     ("hole", ("any",)), (["word"], "a"), (("word",), "a"), (("word", "a"),), ("word", ("word", "a")),
                     ("word", 7), ("word", True), ("word", None), ("word", ["a"]), ("word", ("a",)), [("word", "a")]]:
            with self.subTest(part=part):
                self.assertIs(asked(self, is_pattern, [part]), False)
                self.assertIs(asked(self, is_pattern, [w("a"), part]), False)
                self.assertIs(asked(self, is_pattern, [part, ANY]), False)

    def test_wrong_words(self):
        for text in ["", " ", "a b", " a", "a ", "a\n", "\n", "\na", "a\nb", "\r", "\t", "%", "a%", "%a", "a\x7f"]:
            with self.subTest(text=text):
                self.assertIs(asked(self, is_pattern, [w(text)]), False)
                self.assertIs(asked(self, is_pattern, [ANY, w(text)]), False)

    def test_no_list(self):
        for thing in [(w("a"),), (ANY, ANY), w("a"), ANY, "a", "a b", "<any>", 0, 7, True, False, None, ()]:
            with self.subTest(thing=thing):
                self.assertIs(asked(self, is_pattern, thing), False)

    def test_within_lists(self):
        for thing in [[[w("a")]], [[[w("a")]]], ([w("a")],), [(w("a"),)], [[]], [()], [[[[]]]]]:
            with self.subTest(thing=thing):
                self.assertIs(asked(self, is_pattern, thing), False)

    def test_of_anything(self):
        good = {repr([part]) for part in [w("a"), ANY, NUMBER, w("-7")]}
        for thing in anything():
            self.assertIs(asked(self, is_pattern, thing), repr(thing) in good, repr(thing))

    def test_lists_of_two_things(self):
        for one in anything():
            self.assertIs(asked(self, is_pattern, [ANY, one]), one in PARTS + [w("-7")] or
                          (isinstance(one, tuple) and len(one) == 2 and one[0] == "word"
                           and one[1] in ("a", "word", "hole", "number", "name", "any", "7")), repr(one))


class Fitting(unittest.TestCase):
    def test_fitting(self):
        pattern = [w("user"), NUMBER, NAME, ANY]
        for line in ["user 7 in X", "user -7 in in", "user 007 a 7", "user 0 z -"]:
            self.assertIs(asked(self, fits, pattern, line), True, line)
        for line in ["User 7 in X", "user x in X", "user 7 In X", "user 7 7 X", "user - in X", "users 7 in X",
                     "user 7 in", "user 7 in X X", "user", "7 user in X"]:
            self.assertIs(asked(self, fits, pattern, line), False, line)

    def test_each_part_and_word(self):
        for part in PARTS:
            for word in WORDS:
                with self.subTest(part=part, word=word):
                    self.assertIs(asked(self, fits, [part], word), word in FITTING[part])

    def test_each_place(self):
        for at in range(12):
            pattern = [NAME] * 12
            pattern[at] = NUMBER
            words = ["a"] * 12
            self.assertIs(fits(pattern, " ".join(words)), False)
            words[at] = "7"
            self.assertIs(fits(pattern, " ".join(words)), True)

    def test_unlike_numbers(self):
        for parts in range(1, 13):
            for words in range(1, 13):
                self.assertIs(fits([ANY] * parts, " ".join(["a"] * words)), parts == words)

    def test_a_word_that_reads_like_a_hole(self):
        self.assertIs(fits([w("any")], "any"), True)
        self.assertIs(fits([w("any")], "a"), False)
        self.assertIs(fits([w("number")], "7"), False)
        self.assertIs(fits([w("007")], "7"), False)


class Fillings(unittest.TestCase):
    def test_fillings(self):
        self.assertEqual(asked_twice(self, fillings, [w("user"), NUMBER, w("in"), ANY], "user 7 in X"), ["7", "X"])
        self.assertEqual(asked_twice(self, fillings, [NAME, NUMBER, ANY], "a -7 -"), ["a", "-7", "-"])
        self.assertEqual(asked_twice(self, fillings, [ANY, w("a"), ANY], "a a a"), ["a", "a"])
        self.assertEqual(asked_twice(self, fillings, [w("a"), w("b")], "a b"), [])

    def test_twelve(self):
        words = [str(at) for at in range(12)]
        self.assertEqual(fillings([NUMBER] * 12, " ".join(words)), words)

    def test_no_fit(self):
        for pattern, line in [([w("a")], "b"), ([NUMBER], "a"), ([NUMBER], "-"), ([NAME], "7"), ([NAME], "A"),
                              ([ANY], "a b"), ([ANY, ANY], "a"), ([w("a"), ANY], "b a"), ([ANY] * 12, "a"),
                              ([w("a"), w("b")], "a c")]:
            with self.subTest(pattern=pattern, line=line):
                refused(self, NoFit, fillings, pattern, line)

    def test_filled_gives_the_line_back(self):
        for pattern in patterns_of(1) + patterns_of(2):
            for words in itertools.product(WORDS, repeat=len(pattern)):
                line = " ".join(words)
                if line in lines_of(pattern):
                    self.assertEqual(filled(pattern, fillings(pattern, line)), line)
                else:
                    refused(self, NoFit, fillings, pattern, line)


class Filled(unittest.TestCase):
    def test_filled(self):
        pattern = [w("user"), NUMBER, w("in"), ANY]
        self.assertEqual(asked(self, filled, pattern, ["7", "X"]), "user 7 in X")
        self.assertEqual(asked(self, filled, pattern, ["-0", "-"]), "user -0 in -")
        self.assertEqual(asked(self, filled, [NAME, ANY, NUMBER], ["a", "b", "3"]), "a b 3")
        self.assertEqual(asked(self, filled, [w("a"), w("b")], []), "a b")
        self.assertEqual(asked(self, filled, [w("a")], []), "a")

    def test_twelve(self):
        words = [str(at) for at in range(12)]
        self.assertEqual(asked(self, filled, [NUMBER] * 12, words), " ".join(words))

    def test_not_as_many(self):
        for pattern, words in [([w("a")], ["a"]), ([w("a")], [""]), ([ANY], []), ([ANY], ["a", "b"]),
                               ([NUMBER, w("a"), NAME], ["7"]), ([NUMBER, w("a"), NAME], ["7", "a", "a"]),
                               ([NUMBER, w("a"), NAME], ["7", "a", "a", "a"]), ([ANY] * 12, ["a"] * 11),
                               ([ANY] * 12, ["a"] * 13), ([ANY], ["a"] * 60)]:
            with self.subTest(pattern=pattern, words=words):
                refused(self, NoFit, filled, pattern, words)

    def test_no_words(self):
        for text in ["", " ", "a b", " a", "a ", "a  b", "\n", "a\n", "\na", "7\n", "7 ", "\r\n", "%", "a%b", "\t"]:
            for hole in (NUMBER, NAME, ANY):
                with self.subTest(text=text, hole=hole):
                    refused(self, NoFit, filled, [hole], [text])
                    refused(self, NoFit, filled, [ANY, w("a"), hole], ["a", text])
                    refused(self, NoFit, filled, [hole, w("a"), ANY], [text, "a"])

    def test_words_that_do_not_fit(self):
        for hole in (NUMBER, NAME, ANY):
            for word in WORDS:
                with self.subTest(hole=hole, word=word):
                    if word in FITTING[hole]:
                        self.assertEqual(filled([w("x"), hole], [word]), "x " + word)
                    else:
                        refused(self, NoFit, filled, [w("x"), hole], [word])

    def test_words_at_each_others_hole(self):
        self.assertEqual(filled([NUMBER, NAME], ["7", "a"]), "7 a")
        refused(self, NoFit, filled, [NUMBER, NAME], ["a", "7"])

    def test_long(self):
        self.assertEqual(filled([ANY], ["a" * 2000]), "a" * 2000)
        refused(self, NoFit, filled, [ANY], ["a" * 1999 + "\n"])
        refused(self, NoFit, filled, [ANY], ["\n" * 2000])


class Within(unittest.TestCase):
    def test_within(self):
        for one, other in [([w("7")], [NUMBER]), ([w("-7")], [NUMBER]), ([w("a")], [NAME]), ([w("A")], [ANY]),
                           ([NUMBER], [ANY]), ([NAME], [ANY]), ([w("7"), w("a")], [NUMBER, ANY]),
                           ([w("-")], [ANY])]:
            with self.subTest(one=one, other=other):
                self.assertIs(asked(self, is_within, one, other), True)
                self.assertIs(asked(self, is_within, other, one), False)

    def test_not_within(self):
        for one, other in [([w("7")], [w("8")]), ([w("7")], [w("07")]), ([w("7")], [NAME]), ([w("-")], [NUMBER]),
                           ([w("A")], [NAME]), ([NUMBER], [NAME]), ([w("7"), w("a")], [NAME, ANY]),
                           ([ANY, NUMBER], [NUMBER, ANY])]:
            with self.subTest(one=one, other=other):
                self.assertIs(asked(self, is_within, one, other), False)
                self.assertIs(asked(self, is_within, other, one), False)

    def test_within_itself(self):
        for pattern in patterns_of(1) + patterns_of(2):
            self.assertIs(is_within(pattern, list(pattern)), True)

    def test_unlike_numbers(self):
        for one, other in [([ANY], [ANY, ANY]), ([w("a")], [ANY, ANY]), ([w("a"), w("a")], [w("a")]),
                           ([ANY] * 11, [ANY] * 12)]:
            self.assertIs(asked(self, is_within, one, other), False)
            self.assertIs(asked(self, is_within, other, one), False)

    def test_against_all_lines(self):
        for many in (1, 2):
            for one in patterns_of(many):
                for other in patterns_of(many):
                    self.assertIs(is_within(one, other), lines_of(one) <= lines_of(other), (one, other))


class Joined(unittest.TestCase):
    def told(self, patterns, pattern):
        for shown in (patterns, patterns[::-1]):
            with self.subTest(patterns=shown):
                answer = asked_twice(self, joined, list(shown))
                self.assertEqual(answer, pattern)
                self.assertTrue(is_own(answer, shown))

    def test_one(self):
        for pattern in ([w("a")], [NUMBER, ANY, w("X")], [ANY] * 12):
            self.told([pattern], pattern)

    def test_alike(self):
        self.told([[w("a"), NUMBER], [w("a"), NUMBER]], [w("a"), NUMBER])
        self.told([[w("X")], [w("X")], [w("X")]], [w("X")])

    def test_words(self):
        self.told([[w("7")], [w("8")]], [NUMBER])
        self.told([[w("7")], [w("-8")], [w("007")]], [NUMBER])
        self.told([[w("a")], [w("b")]], [NAME])
        self.told([[w("a")], [w("7")]], [ANY])
        self.told([[w("X")], [w("Y")]], [ANY])
        self.told([[w("a")], [w("X")]], [ANY])
        self.told([[w("7")], [w("-")]], [ANY])
        self.told([[w("7")], [w("8")], [w("a")]], [ANY])
        self.told([[w("a")], [w("b")], [w("B")]], [ANY])

    def test_holes(self):
        self.told([[NUMBER], [w("7")]], [NUMBER])
        self.told([[NAME], [w("a")]], [NAME])
        self.told([[NUMBER], [w("a")]], [ANY])
        self.told([[NAME], [w("A")]], [ANY])
        self.told([[NUMBER], [NAME]], [ANY])
        self.told([[ANY], [w("X")]], [ANY])
        self.told([[ANY], [NUMBER]], [ANY])
        self.told([[ANY], [w("7")], [w("7")]], [ANY])

    def test_each_place_by_itself(self):
        self.told([[w("user"), w("7"), w("in"), w("X")], [w("user"), w("8"), w("out"), w("a")]],
                  [w("user"), NUMBER, NAME, ANY])

    def test_sixty_and_more(self):
        for many in (60, 100):
            self.told([[w("a"), w(str(number)), w("x" * (number + 1))] for number in range(many)],
                      [w("a"), NUMBER, NAME])
        self.told([[w("a")]] * 60, [w("a")])
        self.told([[w("7")]] * 59 + [[w("8")]], [NUMBER])
        self.told([[w("7")]] * 59 + [[w("X")]], [ANY])

    def test_none(self):
        refused(self, NoJoin, joined, [])

    def test_unlike_numbers(self):
        for patterns in [[[ANY], [ANY, ANY]], [[ANY, ANY], [ANY]], [[w("a")], [w("a")], [w("a"), w("a")]],
                         [[w("a"), w("a")], [w("a")], [w("a")]], [[ANY], [ANY, ANY], [ANY]],
                         [[ANY] * 12, [ANY] * 11]]:
            with self.subTest(patterns=patterns):
                refused(self, NoJoin, joined, patterns)

    def test_is_the_narrowest_of_all(self):
        alone = patterns_of(1)
        for many in (1, 2, 3):
            for some in itertools.product(alone, repeat=many):
                lines = set().union(*[lines_of(pattern) for pattern in some])
                wider = [pattern for pattern in alone if lines <= lines_of(pattern)]
                narrowest = [pattern for pattern in wider
                             if all(lines_of(pattern) <= lines_of(other) for other in wider)]
                self.assertEqual([joined(list(some))], narrowest)

    def test_is_the_narrowest_of_two_parts(self):
        for one in patterns_of(2):
            for other in patterns_of(2):
                self.assertEqual(joined([one, other]), joined([one[:1], other[:1]]) + joined([one[1:], other[1:]]))


class Met(unittest.TestCase):
    def told(self, one, other, pattern):
        for first, second in ((one, other), (other, one)):
            with self.subTest(one=first, other=second):
                answer = asked_twice(self, met, first, second)
                self.assertEqual(answer, pattern)
                self.assertTrue(is_own(answer, first, second))

    def test_met(self):
        self.told([w("a")], [w("a")], [w("a")])
        self.told([w("a")], [NAME], [w("a")])
        self.told([w("7")], [NUMBER], [w("7")])
        self.told([w("X")], [ANY], [w("X")])
        self.told([NUMBER], [ANY], [NUMBER])
        self.told([NAME], [ANY], [NAME])
        self.told([ANY], [ANY], [ANY])
        self.told([w("user"), ANY, NUMBER], [NAME, w("X"), ANY], [w("user"), w("X"), NUMBER])
        self.told([ANY] * 12, [NAME] * 12, [NAME] * 12)

    def test_no_line(self):
        self.told([w("a")], [w("b")], None)
        self.told([w("7")], [NAME], None)
        self.told([w("X")], [NAME], None)
        self.told([w("-")], [NUMBER], None)
        self.told([NUMBER], [NAME], None)
        self.told([ANY, NUMBER], [ANY, NAME], None)
        self.told([NUMBER, ANY], [NAME, ANY], None)

    def test_unlike_numbers(self):
        self.told([ANY], [ANY, ANY], None)
        self.told([w("a")], [w("a"), w("a")], None)
        self.told([ANY] * 12, [ANY] * 11, None)

    def test_with_itself(self):
        pattern = [w("a"), NUMBER]
        self.assertEqual(met(pattern, pattern), pattern)
        self.assertIsNot(met(pattern, pattern), pattern)

    def test_against_all_lines(self):
        for many in (1, 2):
            for one in patterns_of(many):
                for other in patterns_of(many):
                    answer = met(one, other)
                    lines = set() if answer is None else lines_of(answer)
                    self.assertEqual(lines, lines_of(one) & lines_of(other), (one, other))


class Order(unittest.TestCase):
    def in_this_order(self, patterns):
        for shown in (patterns, patterns[::-1], patterns[1::2] + patterns[::2], patterns[::2] + patterns[1::2]):
            answer = asked_twice(self, ordered, [list(pattern) for pattern in shown])
            self.assertEqual(answer, patterns)

    def test_none_and_one(self):
        self.in_this_order([])
        self.in_this_order([[ANY]])

    def test_fewer_parts_first(self):
        self.in_this_order([[ANY], [w("a"), w("a")], [w("a")] * 3, [w("a")] * 12])

    def test_words_ahead_of_holes(self):
        self.in_this_order([[w("zzz")], [w("~~~~")], [NUMBER], [NAME], [ANY]])

    def test_words_in_their_order(self):
        self.in_this_order([[w("!")], [w("9")], [w("Z")], [w("z")], [w("-1")], [w("10")], [w("aa")], [w("aaa")]])

    def test_the_first_part_goes_first(self):
        self.in_this_order([[w("a"), ANY], [w("b"), NAME], [w("aa"), w("a")], [NUMBER, ANY], [NAME, NUMBER],
                            [ANY, w("a")], [ANY, NUMBER]])

    def test_told_twice_stay(self):
        self.in_this_order([[w("a")], [w("a")], [NAME], [NAME], [NAME], [ANY, ANY], [ANY, ANY]])

    def test_lines_as_patterns(self):
        lines = [" ".join(words) for many in (1, 2) for words in itertools.product(WORDS, repeat=many)][:60]
        told = ordered([[w(word) for word in line.split(" ")] for line in lines])
        self.assertEqual([" ".join(part[1] for part in pattern) for pattern in told], in_order(lines))

    def test_sixty(self):
        self.in_this_order([[w(str(number))] for number in range(60)])
        self.in_this_order([[NUMBER]] * 30 + [[ANY]] * 30)

    def test_all_lists_are_new(self):
        one, other = [w("b")], [w("a")]
        given = [one, other, one]
        answer = ordered(given)
        self.assertEqual(answer, [[w("a")], [w("b")], [w("b")]])
        self.assertTrue(is_own(answer, given))
        for inner in answer:
            inner.append(ANY)
        self.assertEqual(given, [[w("b")], [w("a")], [w("b")]])


class Soon(unittest.TestCase):
    def test_long_words(self):
        start = time.monotonic()
        patterns = [[w("a" * 160)] * 11 + [w("b" * (number + 1))] for number in range(60)]
        line = " ".join(["a" * 160] * 12)
        joined(patterns)
        ordered(patterns)
        for pattern in patterns:
            self.assertTrue(is_pattern(pattern))
            is_within(pattern, [ANY] * 12)
            met(pattern, [NAME] * 12)
            fits(pattern, line)
        fillings([ANY] * 12, line)
        self.assertLess(time.monotonic() - start, 10)


if __name__ == "__main__":
    unittest.main()
