"""What a log tells: points 14 to 17, with points 2 and 3 as far as they speak of it."""

import unittest

from handed import asked_twice, is_own, refused
from loggather.errors import NoFit, NoPattern
from loggather.logs import Log
from loggather.patterns import filled, fillings
from looks import log_of, refused_and_unchanged
from things import anything

ANY = ("hole", "any")
NAME = ("hole", "name")
NUMBER = ("hole", "number")
A = ("word", "a")
B = ("word", "b")
C = ("word", "c")


class Patterns(unittest.TestCase):
    def told(self, expected, log):
        self.assertEqual(asked_twice(self, log.patterns), expected)
        self.assertTrue(is_own(log.patterns()))

    def test_none(self):
        self.told([], Log())

    def test_gathered_by_the_sieve(self):
        lines = ["a 1", "a 2", "b 3", "b 4"]
        self.told([[A, NUMBER], [B, NUMBER]], log_of(lines))
        self.told([[NAME, NUMBER]], log_of(lines, sieve=(3, 3)))
        self.told([[("word", line[0]), ("word", line[2])] for line in lines], log_of(lines, sieve=(4, 1)))

    def test_those_by_hand_are_ahead(self):
        self.told([[ANY, ANY], [("word", "z")]], log_of(["z", "a b"], [[ANY, ANY]]))
        self.told([[C], [NAME, A], [A], [B, B]], log_of(["a", "b b"], [[NAME, A], [C]]))

    def test_those_by_hand_are_in_order(self):
        hand = [[ANY], [A, A], [NUMBER], [("word", "aa")], [NAME], [B]]
        expected = [[B], [("word", "aa")], [NUMBER], [NAME], [ANY], [A, A]]
        self.told(expected, log_of([], hand))
        self.told(expected, log_of([], hand[::-1]))

    def test_gathered_from_the_lines_that_fit_none_by_hand(self):
        lines = ["a 1", "a 2", "b 3", "b 4"]
        self.told([[A, ANY], [B, NUMBER]], log_of(lines, [[A, ANY]]))
        self.told([[NAME, NUMBER]], log_of(lines, [[NAME, NUMBER]]))
        # Without one line of a there are too few of them to be parted.
        self.told([[A, ("word", "1")], [NAME, NUMBER]], log_of(lines, [[A, ("word", "1")]]))

    def test_a_line_by_hand_comes_back_where_its_pattern_is_taken_off(self):
        log = log_of(["a 1", "b 2"], [[A, ANY], [NAME, ANY]])
        self.told([[A, ANY], [NAME, ANY]], log)
        log.take([NAME, ANY])
        self.told([[A, ANY], [B, ("word", "2")]], log)
        log.take([A, ANY])
        self.told([[NAME, NUMBER]], log)

    def test_lines_that_are_alike_count_once(self):
        self.told([[NAME, NUMBER]], log_of(["a 1", "a 1", "b 2", "b 2"]))

    def test_they_hang_on_no_order_of_lines(self):
        lines = ["a 1", "b 3", "a 2", "b 4", "x"]
        self.told(log_of(lines).patterns(), log_of(lines[::-1]))
        self.told(log_of(lines).patterns(), log_of(sorted(lines)))


class Under(unittest.TestCase):
    def told(self, expected, log):
        self.assertEqual([asked_twice(self, log.under, number) for number in range(len(log))], expected)

    def test_gathered(self):
        self.told([[A, NUMBER], [("word", "x")], [A, NUMBER]], log_of(["a 1", "x", "a 2"]))

    def test_by_hand_ahead_of_gathered(self):
        self.told([[ANY], [B, A]], log_of(["a", "b a"], [[ANY]]))
        self.told([[ANY, ANY], [ANY, ANY]], log_of(["a 1", "a 2"], [[ANY, ANY]]))

    def test_the_narrowest_of_those_by_hand(self):
        hand = [[ANY, ANY], [A, ANY], [NAME, ("word", "7")], [A, NUMBER]]
        self.told([[A, NUMBER], [A, ANY], [NAME, ("word", "7")], [ANY, ANY]],
                  log_of(["a 7", "a x", "b 7", "b 8"], hand))

    def test_the_pattern_with_the_fillings_gives_the_line_back(self):
        lines = ["a 1", "a 2", "b 3", "b 4", "c c", "c 7", "7", "x", "X"]
        log = log_of(lines, [[C, ANY]])
        for number, line in enumerate(lines):
            self.assertEqual(filled(log.under(number), fillings(log.under(number), line)), line)

    def test_the_same_pattern_for_two_lines_is_two_lists(self):
        log = log_of(["a 1", "a 2"], [[A, ANY]])
        self.assertTrue(is_own([log.under(0), log.under(1), log.under(0), log.patterns()]))
        log = log_of(["a 1", "a 2"])
        self.assertTrue(is_own([log.under(0), log.under(1), log.under(0), log.patterns()]))


class Counts(unittest.TestCase):
    def told(self, expected, log, low, high):
        self.assertEqual(asked_twice(self, log.counts, low, high), expected)
        self.assertTrue(is_own(log.counts(low, high)))

    def test_no_patterns(self):
        self.told([], Log(), 0, 10)

    def test_from_low_on_ahead_of_high(self):
        log = Log()
        for moment, line in [(-3, "a"), (0, "a"), (0, "a"), (2, "a"), (5, "a")]:
            log.come(moment, line)
        for low, high, many in [(-3, 6, 5), (-3, 5, 4), (-2, 6, 4), (0, 1, 2), (0, 0, 0), (1, 2, 0), (1, 3, 1),
                                (5, 6, 1), (6, 9, 0), (5, 0, 0), (-9, -3, 0), (-(10 ** 50), 10 ** 50, 5)]:
            self.told([([A], many)], log, low, high)

    def test_for_each_pattern_in_the_order_of_the_log(self):
        log = log_of(["a 1", "b 2", "c", "a x", "b 3", "c"], [[B, ANY], [ANY] * 5])
        self.told([([B, ANY], 2), ([ANY] * 5, 0), ([C], 2), ([A, ANY], 2)], log, 0, 9)
        self.told([([B, ANY], 1), ([ANY] * 5, 0), ([C], 1), ([A, ANY], 1)], log, 0, 3)
        self.told([([B, ANY], 0), ([ANY] * 5, 0), ([C], 0), ([A, ANY], 0)], log, 9, 0)

    def test_a_line_counts_for_the_pattern_that_it_falls_under_alone(self):
        log = log_of(["a 7", "b 7"], [[ANY, ANY], [A, ANY], [NAME, NUMBER]])
        self.told([([A, ANY], 1), ([NAME, NUMBER], 1), ([ANY, ANY], 0)], log, 0, 9)

    def test_they_come_to_the_lines(self):
        log = log_of(["a 1", "a 2", "b 3", "b 4", "c c", "c 7", "7", "x", "X", "X"], [[C, ANY]])
        self.assertEqual(sum(many for pattern, many in log.counts(0, 99)), 10)
        self.assertEqual([pattern for pattern, many in log.counts(0, 99)], log.patterns())


class Holes(unittest.TestCase):
    def told(self, expected, log, pattern):
        self.assertEqual(asked_twice(self, log.holes, pattern), expected)
        self.assertTrue(is_own(log.holes(pattern), pattern))

    def test_no_pattern_of_the_log(self):
        log = log_of(["a", "b 7", "c 7"], [[A, ANY]])
        for thing in anything() + [[A] * 13, (A, ANY), [list(A), ANY], [A, NUMBER], [NAME, NUMBER]]:
            if thing not in log.patterns():
                refused(self, NoPattern, log.holes, thing)
        refused_and_unchanged(self, log, NoPattern, log.holes, [NAME, ANY])
        refused_and_unchanged(self, log, NoPattern, log.holes, [])
        refused(self, NoPattern, Log().holes, [A])
        # A pattern of a log that is gone.
        log.take([A, ANY])
        refused_and_unchanged(self, log, NoPattern, log.holes, [A, ANY])

    def test_no_hole_and_no_line(self):
        log = log_of(["a"], [[B, ANY, NAME], [B]])
        self.told([], log, [A])
        self.told([], log, [B])
        self.told([[], []], log, [B, ANY, NAME])

    def test_the_words_and_how_often(self):
        log = log_of(["a 1 x", "a 2 y", "a 1 z", "a 1 x"], sieve=(2, 9))
        self.told([[("1", 3), ("2", 1)], [("x", 2), ("y", 1), ("z", 1)]], log, [A, NUMBER, NAME])

    def test_in_the_order_of_words(self):
        log = log_of(["a 10", "a 9", "a -1", "a b", "a B", "a aa", "a 010", "a 9"], [[A, ANY]])
        self.told([[("9", 2), ("B", 1), ("b", 1), ("-1", 1), ("10", 1), ("aa", 1), ("010", 1)]], log, [A, ANY])

    def test_holes_from_the_first_to_the_last(self):
        log = log_of(["1 a 2", "3 a 4", "1 a 4"])
        self.told([[("1", 2), ("3", 1)], [("2", 1), ("4", 2)]], log, [NUMBER, A, NUMBER])

    def test_lines_that_fit_but_fall_elsewhere_do_not_count(self):
        log = log_of(["a 7", "b 7", "a x"], [[NAME, ANY], [A, NUMBER]])
        self.told([[("a", 1), ("b", 1)], [("7", 1), ("x", 1)]], log, [NAME, ANY])
        self.told([[("7", 1)]], log, [A, NUMBER])

    def test_they_are_those_of_the_fillings(self):
        lines = ["a 1", "a 2", "b 3", "b 4", "b 4", "c c", "c 7", "7", "x", "X"]
        log = log_of(lines, [[C, ANY]])
        for pattern in log.patterns():
            words = [fillings(pattern, line) for number, line in enumerate(lines) if log.under(number) == pattern]
            for at, hole in enumerate(log.holes(pattern)):
                self.assertEqual(sum(many for word, many in hole), len(words))
                self.assertEqual(dict(hole), {row[at]: [one[at] for one in words].count(row[at]) for row in words})


class Moves(unittest.TestCase):
    def told(self, expected, log):
        self.assertEqual(asked_twice(self, log.moves), expected)
        self.assertTrue(is_own(log.moves()))

    def test_nothing_done(self):
        self.told([], Log())
        log = Log()
        refused(self, NoPattern, log.put, [])
        self.told([], log)

    def test_no_line_was_there(self):
        self.told([], log_of(["a"]))
        self.told([], log_of([], [[A]]))
        log = log_of(["a"])
        log.back()
        self.told([], log)
        log.again()
        self.told([], log)

    def test_a_line_that_came(self):
        log = log_of(["a 1"])
        log.come(1, "a 2")
        self.told([([A, ("word", "1")], [A, NUMBER], 1)], log)
        log.come(2, "a 3")
        self.told([([A, NUMBER], [A, NUMBER], 2)], log)
        log.come(3, "b")
        self.told([([A, NUMBER], [A, NUMBER], 3)], log)

    def test_one_pattern_parts_in_two(self):
        log = log_of(["a 1", "a 2", "b 3"])
        log.come(9, "b 4")
        self.told([([NAME, NUMBER], [A, NUMBER], 2), ([NAME, NUMBER], [B, NUMBER], 1)], log)
        log.back()
        self.told([([A, NUMBER], [NAME, NUMBER], 2), ([B, NUMBER], [NAME, NUMBER], 1)], log)
        log.again()
        self.told([([NAME, NUMBER], [A, NUMBER], 2), ([NAME, NUMBER], [B, NUMBER], 1)], log)

    def test_two_patterns_join(self):
        log = log_of(["a 1", "a 2", "b 3", "b 4"])
        log.come(9, "c 5")
        self.told([([A, NUMBER], [NAME, NUMBER], 2), ([B, NUMBER], [NAME, NUMBER], 2)], log)

    def test_put_and_taken_off(self):
        log = log_of(["a 1", "a 2", "b", "b"])
        log.put([NAME])
        self.told([([B], [NAME], 2), ([A, NUMBER], [A, NUMBER], 2)], log)
        log.take([NAME])
        self.told([([NAME], [B], 2), ([A, NUMBER], [A, NUMBER], 2)], log)
        log.back()
        self.told([([B], [NAME], 2), ([A, NUMBER], [A, NUMBER], 2)], log)

    def test_put_what_is_gathered_already(self):
        log = log_of(["a 1", "a 2"], [[A, NUMBER]])
        self.told([([A, NUMBER], [A, NUMBER], 2)], log)

    def test_in_the_order_of_old_not_of_the_log(self):
        # In the log the pattern by hand, of two parts, is ahead of the shorter one.
        log = log_of(["b b", "c", "a 7"], [[B, ANY]])
        log.put([ANY, NUMBER])
        self.assertEqual(log.patterns(), [[B, ANY], [ANY, NUMBER], [C]])
        self.told([([C], [C], 1), ([A, ("word", "7")], [ANY, NUMBER], 1), ([B, ANY], [B, ANY], 1)], log)

    def test_in_the_order_of_new_below_one_old(self):
        log = log_of(["a b", "10 b", "9 c", "X d"], [[ANY, ANY]])
        log.put([NUMBER, ANY])
        self.told([([ANY, ANY], [NUMBER, ANY], 2), ([ANY, ANY], [ANY, ANY], 2)], log)
        log.back()
        self.told([([NUMBER, ANY], [ANY, ANY], 2), ([ANY, ANY], [ANY, ANY], 2)], log)
        log.take([ANY, ANY])
        self.told([([ANY, ANY], [ANY, NAME], 4)], log)

    def test_each_pair_once(self):
        log = log_of(["a 1", "b 2", "a 3", "b 4", "a 5", "x"], [[NAME, ANY]])
        log.put([A, ANY])
        self.told([([("word", "x")], [("word", "x")], 1), ([NAME, ANY], [A, ANY], 3), ([NAME, ANY], [NAME, ANY], 2)],
                  log)

    def test_a_line_that_is_taken_back_does_not_count(self):
        log = log_of(["a", "b"])
        log.back()
        self.told([([NAME], [A], 1)], log)
        log.again()
        self.told([([A], [NAME], 1)], log)

    def test_the_last_thing_done_is_told_not_the_last_deed(self):
        log = log_of(["a", "b"])
        log.put([A])
        log.back()
        self.told([([A], [NAME], 1), ([B], [NAME], 1)], log)
        log.back()
        self.told([([NAME], [A], 1)], log)

    def test_what_is_refused_leaves_them(self):
        log = log_of(["a"])
        log.come(1, "b")
        refused_and_unchanged(self, log, NoPattern, log.put, [])
        self.told([([A], [NAME], 1)], log)
        with self.assertRaises(NoFit):
            fillings([A], "b")
        log.patterns()
        log.under(0)
        self.told([([A], [NAME], 1)], log)


if __name__ == "__main__":
    unittest.main()
