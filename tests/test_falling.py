"""Falling and news: points 11 and 12, with points 2 and 3 as far as they speak of these."""

import inspect
import itertools
import random
import time
import unittest

import model
from handed import asked, asked_twice, is_own
from loggather.falling import falls_under, looseness, news
from loggather.gathering import gathered
from loggather.patterns import filled, fillings, fits
from things import some_lines

ANY = ("hole", "any")
NAME = ("hole", "name")
NUMBER = ("hole", "number")
A = ("word", "a")
SEVEN = ("word", "7")


class Looseness(unittest.TestCase):
    def test_each_part(self):
        self.assertEqual(asked_twice(self, looseness, [A]), [0])
        self.assertEqual(asked_twice(self, looseness, [SEVEN]), [0])
        self.assertEqual(asked_twice(self, looseness, [("word", "any")]), [0])
        self.assertEqual(asked_twice(self, looseness, [NUMBER]), [1])
        self.assertEqual(asked_twice(self, looseness, [NAME]), [1])
        self.assertEqual(asked_twice(self, looseness, [ANY]), [2])

    def test_a_number_for_each_part(self):
        self.assertEqual(asked_twice(self, looseness, [ANY, A, NAME, SEVEN, NUMBER, ANY]), [2, 0, 1, 0, 1, 2])
        self.assertEqual(asked_twice(self, looseness, [ANY] * 12), [2] * 12)


class FallsUnder(unittest.TestCase):
    def told(self, expected, line, patterns):
        """Also in any other order of the patterns."""
        for turned in itertools.permutations(patterns):
            self.assertEqual(asked_twice(self, falls_under, line, list(turned)), expected)

    def test_none(self):
        self.told(None, "a", [])
        self.told(None, "a", [[NUMBER], [("word", "b")], [ANY, ANY], [A, A]])
        self.told(None, "A", [[NUMBER], [NAME], [A]])

    def test_one(self):
        self.told([NAME], "a", [[NUMBER], [NAME], [ANY, ANY]])
        self.told([ANY], "A", [[NUMBER], [NAME], [ANY]])

    def test_the_narrowest(self):
        self.told([A], "a", [[ANY], [NAME], [A]])
        self.told([NAME], "b", [[ANY], [NAME], [A]])
        self.told([ANY], "7", [[ANY], [NAME], [A]])
        self.told([NUMBER], "-7", [[ANY], [NUMBER], [SEVEN]])

    def test_the_first_place_goes_first(self):
        self.told([A, ANY], "a 7", [[A, ANY], [NAME, SEVEN]])
        self.told([A, ANY, ANY], "a a a", [[A, ANY, ANY], [NAME, A, A], [ANY, A, A]])
        self.told([NAME, ANY, ANY], "a a a", [[NAME, ANY, ANY], [ANY, A, A]])
        self.told([A, NAME, ANY], "a a a", [[A, NAME, ANY], [A, ANY, A]])

    def test_some_alike(self):
        self.told([A, ANY], "a 7", [[A, ANY], [A, ANY], [ANY, ANY]])

    def test_of_equally_loose_ones_a_line_fits_but_one(self):
        self.told([NAME, NUMBER], "a 7", [[NUMBER, NAME], [NAME, NUMBER], [NAME, NAME]])
        self.told([A, ANY], "a 7", [[A, ANY], [("word", "b"), ANY]])

    def test_the_pattern_is_the_askers_own(self):
        patterns = [[A, ANY], [ANY, ANY]]
        self.assertTrue(is_own(falls_under("a 7", patterns), patterns))

    def test_against_the_model(self):
        chance = random.Random(20)
        parts = [A, SEVEN, ("word", "X"), NUMBER, NAME, ANY]
        for trial in range(1500):
            wide = chance.randint(1, 4)
            patterns = [[chance.choice(parts) for place in range(chance.choice([wide, wide, 2]))]
                        for pattern in range(chance.randint(0, 12))]
            line = " ".join(chance.choice(["a", "7", "X", "b", "8"]) for place in range(wide))
            told = asked(self, falls_under, line, patterns)
            self.assertEqual(told, model.fall(line, patterns), (line, patterns))
            if told is not None:
                self.assertEqual(filled(told, fillings(told, line)), line)
                for pattern in patterns:
                    self.assertTrue(not fits(pattern, line) or looseness(told) <= looseness(pattern))


class News(unittest.TestCase):
    def test_none_and_one(self):
        self.assertEqual(asked_twice(self, news, []), [])
        self.assertEqual(asked_twice(self, news, [], (2, 1)), [])
        self.assertEqual(asked_twice(self, news, ["a"]), [0])
        self.assertEqual(asked_twice(self, news, ["a", "a", "a"]), [0])

    def test_what_fits_a_pattern_of_the_lines_ahead_is_none(self):
        self.assertEqual(asked_twice(self, news, ["a 1", "a 2", "a 3", "b 1", "c 9", "a"]), [0, 1, 3, 5])
        self.assertEqual(asked_twice(self, news, ["7", "8", "9", "x", "y", "Z"]), [0, 1, 3])

    def test_lines_behind_do_not_count(self):
        self.assertEqual(asked_twice(self, news, ["a 3", "a 1", "a 2"]), [0, 1])

    def test_it_hangs_on_the_sieve(self):
        # With (3, 2) the four lines are parted by a and b, with (3, 3) they are not, and c fits a hole.
        lines = ["a 1", "a 2", "b 3", "b 4", "c 5"]
        self.assertEqual(asked_twice(self, news, lines, (3, 2)), [0, 1, 2, 4])
        self.assertEqual(asked_twice(self, news, lines, (3, 3)), [0, 1, 2])

    def test_a_line_that_fitted_may_be_news_later(self):
        # b fits the hole of a name at first; once a and c are parted it is no more there.
        lines = ["a 1", "c 2", "b 3"]
        self.assertEqual(news(lines, (3, 2)), [0, 1])
        self.assertEqual(news(["a 1", "c 2", "a 3", "c 4", "b 5"], (3, 2)), [0, 1, 4])

    def test_the_sieve_may_be_left_out(self):
        self.assertEqual(inspect.signature(news).parameters["sieve"].default, (3, 2))
        chance = random.Random(21)
        for trial in range(50):
            lines = some_lines(chance, 15, 3)
            self.assertEqual(news(lines), news(lines, (3, 2)))

    def test_against_the_model(self):
        chance = random.Random(22)
        for trial in range(250):
            lines = some_lines(chance, 20, 4)
            sieve = (chance.randint(2, 9), chance.randint(1, 4))
            told = asked(self, news, lines, sieve)
            self.assertEqual(told, model.news(lines, sieve), (lines, sieve))
            for number, line in enumerate(lines):
                knows = falls_under(line, gathered(lines[:number], sieve)) is not None
                self.assertEqual(number in told, not knows)

    def test_soon(self):
        chance = random.Random(23)
        lines = [" ".join(chance.choice("abcdefghi") * 160 for place in range(12)) for line in range(60)]
        start = time.monotonic()
        news(lines, (9, 1))
        self.assertLess(time.monotonic() - start, 20)


if __name__ == "__main__":
    unittest.main()
