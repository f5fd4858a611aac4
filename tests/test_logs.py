"""The deeds of a log, its len and ==, and going back and forth: points 13 and 17, with point 2."""

import inspect
import unittest

from handed import asked, refused
from loggather.errors import NoLine, NoMoment, NoPattern, NothingLeft, TooMany
from loggather.logs import Log
from loggather.patterns import is_pattern
from loggather.words import is_line
from looks import log_of, look, refused_and_unchanged
from things import anything

ANY = ("hole", "any")
NAME = ("hole", "name")
NUMBER = ("hole", "number")
A = ("word", "a")


def twelve_patterns():
    return [[("word", f"w{number}"), ANY] for number in range(12)]


class Come(unittest.TestCase):
    def test_lines_are_numbered_from_0_on(self):
        log = Log()
        self.assertEqual([log.come(5, "a"), log.come(5, "a"), log.come(9, "b c")], [0, 1, 2])

    def test_after_one_is_taken_back_its_number_is_free(self):
        log = log_of(["a", "b"])
        log.back()
        self.assertEqual(log.come(7, "c"), 1)
        self.assertEqual(len(log), 2)

    def test_any_moment_goes_first(self):
        for moment in (0, -5, 10 ** 39, -(10 ** 39), 10 ** 5000):
            self.assertEqual(Log().come(moment, "a"), 0)

    def test_no_line(self):
        log = log_of(["a", "b 7"], [[A, ANY]])
        for thing in anything() + ["a  b", " a", "a ", "a\nb", " ".join("a" * 13), "~ ~ \n"]:
            if not is_line(thing):
                refused(self, NoLine, log.come, 9, thing)
        refused_and_unchanged(self, log, NoLine, log.come, 9, " ".join("a" * 13))
        refused_and_unchanged(self, log, NoLine, log.come, 9, None)

    def test_a_line_of_twelve_words(self):
        line = " ".join("a" * 12)
        log = log_of([line])
        self.assertEqual(log.under(0), [A] * 12)

    def test_no_moment(self):
        log = Log()
        log.come(5, "a")
        self.assertEqual(refused_and_unchanged(self, log, NoMoment, log.come, 4, "b").last, 5)
        self.assertEqual(refused_and_unchanged(self, log, NoMoment, log.come, -(10 ** 39), "b").last, 5)
        log.come(5, "b")
        log.come(8, "b")
        self.assertEqual(refused_and_unchanged(self, log, NoMoment, log.come, 5, "b").last, 8)

    def test_no_moment_at_0_and_below(self):
        log = Log()
        log.come(0, "a")
        self.assertEqual(refused_and_unchanged(self, log, NoMoment, log.come, -1, "b").last, 0)
        other = Log()
        other.come(-7, "a")
        self.assertEqual(refused_and_unchanged(self, other, NoMoment, other.come, -8, "b").last, -7)
        self.assertEqual(other.come(-7, "b"), 1)

    def test_the_last_moment_is_that_of_the_line_that_is_there(self):
        log = log_of(["a", "b", "c"])
        log.back()
        self.assertEqual(refused_and_unchanged(self, log, NoMoment, log.come, 0, "d").last, 1)
        log.again()
        self.assertEqual(refused_and_unchanged(self, log, NoMoment, log.come, 1, "d").last, 2)
        for step in range(3):
            log.back()
        self.assertEqual(log.come(-9, "d"), 0)

    def test_a_moment_of_thousands_of_figures(self):
        log = Log()
        log.come(10 ** 5000, "a")
        self.assertTrue(refused(self, NoMoment, log.come, 0, "b").last == 10 ** 5000)

    def test_too_many_lines(self):
        log = log_of([f"a {number}" for number in range(119)])
        self.assertEqual(log.come(119, "last"), 119)
        refused_and_unchanged(self, log, TooMany, log.come, 119, "more")
        self.assertEqual(len(log), 120)
        log.back()
        self.assertEqual(log.come(119, "other"), 119)

    def test_lines_that_are_alike_are_so_many_lines(self):
        log = log_of(["a"] * 120)
        refused_and_unchanged(self, log, TooMany, log.come, 200, "a")

    def test_the_refusal_told_first_goes_first(self):
        full = log_of(["a"] * 120)
        refused(self, NoLine, full.come, 0, "")
        refused(self, NoLine, full.come, 200, "")
        refused(self, NoMoment, full.come, 0, "a")
        refused(self, TooMany, full.come, 119, "a")
        refused(self, NoLine, log_of(["a", "b"]).come, 0, 7)


class PutAndTake(unittest.TestCase):
    def test_they_tell_none(self):
        log = Log()
        self.assertIsNone(asked(self, log.put, [A]))
        self.assertIsNone(asked(self, log.take, [A]))

    def test_no_pattern(self):
        log = log_of(["a", "b 7"], [[A, ANY]])
        for thing in anything() + [[A] * 13, [A, list(A)], tuple([A])]:
            if not is_pattern(thing):
                refused(self, NoPattern, log.put, thing)
        refused_and_unchanged(self, log, NoPattern, log.put, [])
        refused_and_unchanged(self, log, NoPattern, log.put, [A] * 13)
        refused_and_unchanged(self, log, NoPattern, log.put, [("hole", "other")])

    def test_twelve_parts(self):
        log = Log()
        log.put([ANY] * 12)
        self.assertEqual(log.patterns(), [[ANY] * 12])

    def test_there_by_hand_already(self):
        log = log_of(["b"], [[A], [NAME, A]])
        refused_and_unchanged(self, log, NoPattern, log.put, [A])
        refused_and_unchanged(self, log, NoPattern, log.put, [NAME, A])
        log.take([A])
        log.put([A])

    def test_a_gathered_one_can_be_put(self):
        log = log_of(["a"])
        self.assertEqual(log.patterns(), [[A]])
        log.put([A])
        self.assertEqual(log.patterns(), [[A]])
        refused_and_unchanged(self, log, NoPattern, log.put, [A])

    def test_too_many_by_hand(self):
        log = log_of(["a", "w0 b"], twelve_patterns()[:11])
        log.put(twelve_patterns()[11])
        refused_and_unchanged(self, log, TooMany, log.put, [A])
        log.take(twelve_patterns()[3])
        log.put([A])
        refused_and_unchanged(self, log, TooMany, log.put, [NAME])

    def test_the_refusal_told_first_goes_first(self):
        log = log_of(["a"], twelve_patterns())
        refused(self, NoPattern, log.put, None)
        refused(self, NoPattern, log.put, [])
        refused(self, NoPattern, log.put, twelve_patterns()[5])
        refused(self, TooMany, log.put, [A])

    def test_taken_off_what_is_not_there_by_hand(self):
        log = log_of(["a", "b 7"], [[A, ANY]])
        for thing in anything() + [[A] * 13, [list(A), ANY], (A, ANY)]:
            refused(self, NoPattern, log.take, thing)
        # A gathered one is not there by hand.
        self.assertIn([A], log.patterns())
        refused_and_unchanged(self, log, NoPattern, log.take, [A])
        log.take([A, ANY])
        refused_and_unchanged(self, log, NoPattern, log.take, [A, ANY])

    def test_what_is_put_is_kept_as_a_copy(self):
        log = Log()
        pattern = [A, ANY]
        log.put(pattern)
        pattern.append(NUMBER)
        self.assertEqual(log.patterns(), [[A, ANY]])
        log.back()
        log.again()
        self.assertEqual(log.patterns(), [[A, ANY]])
        log.take([A, ANY])
        log.back()
        self.assertEqual(log.patterns(), [[A, ANY]])


class LenAndEquals(unittest.TestCase):
    def equal(self, one, other):
        self.assertIs(one == other, True)
        self.assertIs(other == one, True)
        self.assertIs(one != other, False)

    def unequal(self, one, other):
        self.assertIs(one == other, False)
        self.assertIs(other == one, False)
        self.assertIs(one != other, True)

    def test_len_is_how_many_lines_are_there(self):
        log = Log()
        self.assertEqual(len(log), 0)
        log.come(1, "a")
        log.come(1, "a")
        self.assertEqual(len(log), 2)
        log.put([A])
        self.assertEqual(len(log), 2)
        log.take([A])
        log.back()
        log.back()
        self.assertEqual(len(log), 2)
        log.back()
        self.assertEqual(len(log), 1)
        log.again()
        self.assertEqual(len(log), 2)

    def test_the_sieve_may_be_left_out(self):
        self.assertEqual(inspect.signature(Log).parameters["sieve"].default, (3, 2))
        self.equal(Log(), Log((3, 2)))

    def test_unlike_sieves(self):
        self.unequal(Log((3, 2)), Log((3, 1)))
        self.unequal(Log((3, 2)), Log((2, 2)))
        self.unequal(Log((3, 2)), Log((2, 3)))
        self.unequal(log_of(["a"], sieve=(9, 9)), log_of(["a"], sieve=(9, 8)))

    def test_lines_moments_and_patterns_by_hand(self):
        self.equal(log_of(["a", "b"], [[A]]), log_of(["a", "b"], [[A]]))
        self.unequal(log_of(["a", "b"]), log_of(["a", "c"]))
        self.unequal(log_of(["a", "b"]), log_of(["b", "a"]))
        self.unequal(log_of(["a", "b"]), log_of(["a"]))
        self.unequal(log_of(["a"]), log_of(["a"], [[A]]))
        self.unequal(log_of(["a"], [[NAME]]), log_of(["a"], [[A]]))
        early, late = Log(), Log()
        early.come(1, "a")
        late.come(2, "a")
        self.unequal(early, late)

    def test_however_they_came_to_them(self):
        self.equal(log_of(["b"], [[A], [NAME]]), log_of(["b"], [[NAME], [A]]))
        log = log_of(["a", "b"])
        log.put([A])
        log.take([A])
        self.equal(log, log_of(["a", "b"]))
        log.come(9, "c")
        log.back()
        self.equal(log, log_of(["a", "b"]))
        early, late = Log(), Log()
        early.put([A])
        early.come(0, "a")
        late.come(0, "a")
        late.put([A])
        self.equal(early, late)
        self.unequal(early, Log())
        for step in range(2):
            early.back()
        self.equal(early, Log())

    def test_it_equals_nothing_else(self):
        class EqualsAll:
            def __eq__(self, other):
                return True

        for log in (Log(), log_of(["a"], [[A]])):
            for thing in anything() + [{}, Log, object(), [(0, "a")], EqualsAll()]:
                self.assertIs(log == thing, False)
                self.assertIs(log != thing, True)

    def test_it_equals_itself(self):
        for log in (Log(), log_of(["a"], [[A]])):
            self.equal(log, log)

    def test_asking_changes_nothing(self):
        one, other = log_of(["a", "7"], [[A]]), log_of(["a", "7"], [[A]])
        before = look(one)
        self.equal(one, other)
        self.unequal(one, Log())
        self.assertEqual(len(one), 2)
        self.assertEqual((look(one), look(other)), (before, before))

    def test_logs_are_apart(self):
        one, other = Log(), Log()
        one.come(1, "a")
        one.put([A])
        self.assertEqual((len(other), other.patterns(), other.moves()), (0, [], []))
        refused(self, NothingLeft, other.back)


class BackAndAgain(unittest.TestCase):
    def test_they_tell_none(self):
        log = log_of(["a"])
        self.assertIsNone(log.back())
        self.assertIsNone(log.again())

    def test_nothing_left(self):
        log = Log()
        refused_and_unchanged(self, log, NothingLeft, log.back)
        refused_and_unchanged(self, log, NothingLeft, log.again)
        log.come(0, "a")
        refused_and_unchanged(self, log, NothingLeft, log.again)
        log.back()
        refused_and_unchanged(self, log, NothingLeft, log.back)
        log.again()
        refused_and_unchanged(self, log, NothingLeft, log.again)

    def test_each_kind_of_deed(self):
        for prepare, deed in [
                ([], lambda log: log.come(9, "b 8")),
                ([], lambda log: log.put([ANY, NUMBER])),
                ([[ANY, NUMBER]], lambda log: log.take([ANY, NUMBER]))]:
            log, ahead = log_of(["a 7", "b", "b 9"], prepare), log_of(["a 7", "b", "b 9"], prepare)
            behind = log_of(["a 7", "b", "b 9"], prepare)
            deed(log)
            deed(behind)
            self.assertFalse(ahead == behind)
            for times in range(3):
                log.back()
                self.assertTrue(log == ahead)
                self.assertEqual(log.patterns(), ahead.patterns())
                log.again()
                self.assertTrue(log == behind)
                self.assertEqual(log.patterns(), behind.patterns())

    def test_as_often_as_there_is_one(self):
        log = Log()
        log.come(0, "a")
        log.put([A])
        log.come(3, "b")
        log.take([A])
        log.put([NAME])
        seen = [(len(log), log.patterns())]
        for step in range(5):
            log.back()
            seen.append((len(log), log.patterns()))
        self.assertEqual(seen, [
            (2, [[NAME]]), (2, [[NAME]]), (2, [[A], [("word", "b")]]), (1, [[A]]), (1, [[A]]), (0, [])])
        refused(self, NothingLeft, log.back)
        for step in range(5):
            log.again()
            self.assertEqual((len(log), log.patterns()), seen[4 - step])
        refused(self, NothingLeft, log.again)

    def test_a_new_deed_ends_doing_again(self):
        for deed in [lambda log: log.come(9, "c"), lambda log: log.put([NAME]), lambda log: log.take([A, A])]:
            log = log_of([], [[A, A]])
            log.come(1, "a")
            log.come(2, "b")
            log.back()
            log.back()
            log.again()
            deed(log)
            refused_and_unchanged(self, log, NothingLeft, log.again)
            log.back()
            log.again()
            refused_and_unchanged(self, log, NothingLeft, log.again)
            log.back()
            log.back()
            log.back()
            refused_and_unchanged(self, log, NothingLeft, log.back)

    def test_a_refused_deed_does_not_end_doing_again(self):
        log = log_of(["a", "b"], [[A]])
        log.come(5, "c")
        log.back()
        refused(self, NoLine, log.come, 9, "")
        refused(self, NoMoment, log.come, 0, "a")
        refused(self, NoPattern, log.put, [A])
        refused(self, NoPattern, log.put, 7)
        refused(self, NoPattern, log.take, [NAME])
        refused(self, NoPattern, log.holes, [NUMBER])
        log.again()
        self.assertEqual(len(log), 3)
        refused(self, NothingLeft, log.again)
        log.back()
        log.back()
        self.assertEqual(log.patterns(), log_of(["a", "b"]).patterns())

    def test_too_many_does_not_end_doing_again(self):
        full = log_of(["a"] * 120)
        full.put([A])
        full.back()
        refused(self, TooMany, full.come, 500, "a")
        full.again()
        self.assertEqual(full.patterns(), [[A]])
        crowd = log_of([], twelve_patterns())
        crowd.come(1, "a")
        crowd.back()
        refused(self, TooMany, crowd.put, [A])
        crowd.again()
        self.assertEqual(len(crowd), 1)

    def test_what_is_refused_is_no_deed_to_take_back(self):
        log = log_of(["a"])
        refused(self, NoPattern, log.take, [A])
        refused(self, NoLine, log.come, 5, 5)
        log.back()
        self.assertEqual(len(log), 0)
        refused(self, NothingLeft, log.back)

    def test_questions_do_not_end_doing_again(self):
        log = log_of(["a", "b"])
        log.back()
        look(log)
        self.assertTrue(log == log_of(["a"]))
        log.again()
        self.assertEqual(len(log), 2)

    def test_a_line_comes_again_with_its_moment(self):
        log = Log()
        log.come(4, "a")
        log.come(6, "a")
        log.back()
        log.back()
        log.again()
        log.again()
        self.assertEqual([log.counts(4, 5), log.counts(5, 6), log.counts(6, 7)], [[([A], 1)], [([A], 0)], [([A], 1)]])


if __name__ == "__main__":
    unittest.main()
