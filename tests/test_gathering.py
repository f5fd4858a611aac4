"""Gathering: point 10, with points 2 and 3 as far as they speak of it."""

import inspect
import random
import time
import unittest

import model
from handed import asked, asked_twice, is_own
from loggather.gathering import gathered
from loggather.patterns import fits
from things import some_lines

ANY = ("hole", "any")
NAME = ("hole", "name")
NUMBER = ("hole", "number")


def plain(line):
    """The pattern without holes of a line."""
    return [("word", word) for word in line.split(" ")]


class Gathering(unittest.TestCase):
    def told(self, expected, lines, *sieve):
        """Also in any other order of the lines."""
        turned = sorted(lines, reverse=True)
        self.assertEqual(asked_twice(self, gathered, lines, *sieve), expected)
        self.assertEqual(asked_twice(self, gathered, turned, *sieve), expected)

    def test_no_lines(self):
        self.told([], [])
        self.told([], [], (2, 1))

    def test_one_line(self):
        self.told([plain("user 7 in")], ["user 7 in"])
        self.told([plain("a")], ["a"], (2, 1))
        self.told([plain("a")], ["a", "a", "a"], (2, 1))

    def test_the_pattern_of_a_group_is_the_join_of_its_lines(self):
        self.told([[("word", "user"), NUMBER, NAME]], ["user 7 in", "user 12 out"])
        self.told([[("word", "user"), ANY, ANY]], ["user 7 in", "user x Out"])
        self.told([[NUMBER]], ["7", "-7", "07"])
        self.told([[NAME]], ["a", "bb"])
        self.told([[ANY]], ["a", "7"])
        self.told([[ANY]], ["7", "7a"])
        self.told([[ANY]], ["A", "B"])
        self.told([[ANY]], ["a", "-"])

    def test_one_group_at_first_for_each_number_of_words(self):
        self.told([[NAME], [NAME, NAME], [("word", "a"), ("word", "b"), ("word", "c")]],
                  ["a b c", "a b", "c d", "a", "b"])

    def test_parted_where_each_word_is_in_as_many_lines_as_least_says(self):
        four = ["a 1", "a 2", "b 3", "b 4"]
        both = [[("word", "a"), NUMBER], [("word", "b"), NUMBER]]
        self.told(both, four, (3, 2))
        self.told(both, four, (2, 2))
        self.told([[NAME, NUMBER]], four[:3], (3, 2))
        self.told([[NAME, NUMBER]], four, (3, 3))

    def test_least_of_one(self):
        self.told([plain("a"), plain("b")], ["a", "b"], (2, 1))
        self.told([[NAME]], ["a", "b", "c"], (2, 1))
        self.told([plain("a"), plain("b"), plain("c")], ["a", "b", "c"], (3, 1))
        self.told([plain("a x"), plain("b y")], ["a x", "b y"], (2, 1))

    def test_least_and_spread_of_nine(self):
        def lines(unlike, each):
            return [f"{'abcdefghij'[number // each]} {number}" for number in range(unlike * each)]

        def parted(unlike):
            return [[("word", word), NUMBER] for word in "abcdefghij"[:unlike]]
        self.told(parted(2), lines(2, 9), (2, 9))
        self.told(parted(3), lines(3, 9), (3, 9))
        self.told(parted(9), lines(9, 9), (9, 9))
        self.told(parted(9), lines(9, 2), (9, 2))
        self.told([[NAME, NUMBER]], lines(2, 8), (2, 9))
        self.told([[NAME, NUMBER]], lines(9, 9), (8, 9))
        self.told([[NAME, NUMBER]], lines(3, 9), (2, 9))
        self.told([[NAME, NUMBER]], lines(10, 2), (9, 2))

    def test_one_word_in_too_few_lines_bars_the_place(self):
        self.told([[NAME, NUMBER]], ["a 1", "a 2", "b 3", "b 4", "c 5"], (3, 2))
        self.told([[("word", "a"), NUMBER], [("word", "b"), NUMBER], [("word", "c"), NUMBER]],
                  ["a 1", "a 2", "b 3", "b 4", "c 5", "c 6"], (3, 2))

    def test_more_unlike_words_than_spread_bar_the_place(self):
        lines = [f"{word} {number}" for number, word in enumerate("aabbccdd")]
        self.told([[NAME, NUMBER]], lines, (3, 2))
        self.told([[("word", word), NUMBER] for word in "abcd"], lines, (4, 2))

    def test_lines_that_are_alike_count_once(self):
        self.told([[NAME, NUMBER]], ["a 1", "a 1", "b 3", "b 4"], (3, 2))
        self.told([[NAME, NUMBER]], ["a 1", "a 1", "b 3", "b 3"], (3, 2))
        self.told([[NAME]], ["a", "a", "b", "b"], (3, 2))

    def test_the_place_with_the_fewest_unlike_words_goes_first(self):
        # The first place has three words, the second two; once the second is parted the first no longer is fit.
        lines = ["a x 1", "a y 2", "b x 3", "b y 4", "c x 5", "c y 6"]
        self.told([[NAME, ("word", "x"), NUMBER], [NAME, ("word", "y"), NUMBER]], lines, (3, 2))
        self.told([[("word", "x"), NAME, NUMBER], [("word", "y"), NAME, NUMBER]],
                  ["x a 1", "y a 2", "x b 3", "y b 4", "x c 5", "y c 6"], (3, 2))

    def test_of_several_places_the_first_goes_first(self):
        self.told([[("word", "a"), NAME], [("word", "b"), NAME]], ["a x", "a y", "b x", "b y"], (3, 2))
        self.told([[NUMBER, ("word", "a"), NAME], [NUMBER, ("word", "b"), NAME]],
                  ["1 a x", "2 a y", "3 b x", "4 b y"], (3, 2))

    def test_a_group_that_was_parted_is_parted_likewise(self):
        lines = [f"{one} {two} {number}" for number, (one, two) in
                 enumerate([("a", "x"), ("a", "x"), ("a", "y"), ("a", "y"), ("b", "x"), ("b", "x"), ("b", "x")])]
        self.told([[("word", "a"), ("word", "x"), NUMBER], [("word", "a"), ("word", "y"), NUMBER],
                   [("word", "b"), ("word", "x"), NUMBER]], lines, (3, 2))

    def test_a_place_may_become_fit_in_a_smaller_group(self):
        # Four unlike words at the second place of all, two in each half.
        lines = ["a p 1", "a p 2", "a q 3", "a q 4", "b r 5", "b r 6", "b s 7", "b s 8"]
        self.told([[("word", one), ("word", two), NUMBER] for one, two in ["ap", "aq", "br", "bs"]], lines, (3, 2))

    def test_parted_at_all_of_twelve_places(self):
        lines = [" ".join([word] * 12) for word in "ab"]
        self.told([plain(line) for line in lines], lines, (2, 1))

    def test_words_that_are_alike_but_as_numbers_are_unlike(self):
        self.told([plain("07"), plain("7")][::-1], ["7", "07"], (2, 1))

    def test_in_order(self):
        lines = ["b", "aa", "B", "10", "9", "z z", "a a", "a b"]
        self.told([[ANY], [NAME, NAME]], lines, (3, 2))
        self.told([plain(line) for line in ["9", "B", "b", "10", "aa"]], ["b", "aa", "B", "10", "9"], (9, 1))

    def test_the_sieve_may_be_left_out(self):
        self.assertEqual(inspect.signature(gathered).parameters["sieve"].default, (3, 2))
        chance = random.Random(10)
        for trial in range(100):
            lines = some_lines(chance, 20, 4)
            self.assertEqual(gathered(lines), gathered(lines, (3, 2)))

    def test_against_the_model(self):
        chance = random.Random(11)
        for trial in range(1500):
            lines = some_lines(chance, 30, 6)
            sieve = (chance.randint(2, 9), chance.choice([1, 1, 2, 2, 3, chance.randint(1, 9)]))
            self.assertEqual(asked(self, gathered, lines, sieve), model.gather(lines, sieve), (lines, sieve))

    def test_each_line_fits_just_one_pattern(self):
        chance = random.Random(12)
        for trial in range(300):
            lines = some_lines(chance, 30, 6)
            patterns = gathered(lines, (chance.randint(2, 9), chance.randint(1, 3)))
            for line in lines:
                self.assertEqual(len([pattern for pattern in patterns if fits(pattern, line)]), 1)

    def test_the_lists_are_new(self):
        lines = ["a 1", "a 2", "b 3", "b 4", "c", "d"]
        self.assertTrue(is_own(gathered(lines, (3, 2)), lines))

    def test_soon(self):
        chance = random.Random(13)
        lines = [" ".join(chance.choice("abcdefghi") * 160 for place in range(12)) for line in range(60)]
        start = time.monotonic()
        for sieve in [(9, 1), (9, 9), (2, 1), (3, 2)]:
            gathered(lines, sieve)
        self.assertLess(time.monotonic() - start, 10)


if __name__ == "__main__":
    unittest.main()
