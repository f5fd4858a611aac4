"""Points 2 and 21: the desk."""

import random
import time
import unittest

from handed import refused
from loggather.desk import Desk
from loggather.errors import GatherError, NoMoment, NoPattern, NoRow, NothingLeft, TooMany
from model_desk import ModelDesk

TWELVE = " ".join("abcdefghijkl")

# What may stand for M, L, H, LINE and PATTERN in a row, and what may not.
GOOD_WHOLES = ["0", "1", "9", "10", "-1", "-10", "42", "100", "123456789", "999999999", "-999999999", "-100000000"]
WRONG_WHOLES = [
    "", "-", "-0", "00", "01", "007", "-01", "-00", "+1", "--1", "1-", "1.0", "1e3", "1_0", "0x1", "a", "one",
    "1000000000", "-1000000000", "0000000001", "1" * 10, "1" * 1000, "-" + "9" * 1000, "\n1", "1\n", "=1", "<number>",
    "-a", "1a"]
GOOD_LINES = ["a", "7", "a b", "-", "=", "<any>", "<", "back", "line 5 a", "none", TWELVE, "| | |", "a" * 1900]
WRONG_LINES = ["", " ", " a", "a ", "a  b", "\n", "a\n", "a\nb", "a\n b", TWELVE + " m", " ".join("a" * 900)]
GOOD_PATTERNS = ["a", "<any>", "a <number>", "==", "=<any>", "=<", TWELVE, " ".join(["<any>"] * 12), "back", "a" * 1900]
WRONG_PATTERNS = WRONG_LINES + ["=", "=a", "<", "<a>", "a <b", "<any", "a =b", "<any>x", " ".join(["<any>"] * 13)]
ALONE = ["back", "again", "patterns", "moves"]
GOING_ON = ["line", "put", "take", "fall", "counts"]


def desk_of(rows):
    desk = Desk()
    for row in rows:
        desk.say(row)
    return desk


def look(desk):
    """All that a desk tells without a deed."""
    return [desk.say(row) for row in ("patterns", "moves", "counts -999999999 999999999", "counts 0 2", "fall a 7")]


class Rows(unittest.TestCase):
    def answers(self, desk, rows):
        for row, answer in rows:
            with self.subTest(row=row):
                told = desk.say(row)
                self.assertEqual(told, answer)
                self.assertIs(type(told), str)

    def refuses(self, desk, error, row):
        before = look(desk)
        caught = refused(self, error, desk.say, row)
        self.assertEqual(look(desk), before, "what was refused has changed the desk")
        return caught

    def test_a_day_at_the_desk(self):
        self.answers(Desk(), [
            ("patterns", "none"), ("moves", "none"), ("counts 0 9", "none"), ("fall up 1", "none"),
            ("line 1 up 1", "0"), ("patterns", "up 1"), ("moves", "none"), ("counts 0 9", "1"), ("fall up 1", "up 1"),
            ("fall up 2", "none"),
            ("line 2 up 2", "1"), ("patterns", "up <number>"), ("moves", "1"), ("fall up 7", "up <number>"),
            ("line 2 down 3", "2"), ("patterns", "<name> <number>"), ("moves", "2"),
            ("line 4 down 4", "3"), ("patterns", "up <number> | down <number>"), ("moves", "2 1"),
            ("counts 0 9", "2 2"), ("counts 2 4", "1 1"), ("counts 4 2", "0 0"), ("counts 9 9", "0 0"),
            ("put up 1", "ok"), ("patterns", "up 1 | <name> <number>"), ("moves", "1 1 2"), ("counts 0 9", "1 3"),
            ("fall up 1", "up 1"), ("fall up 5", "<name> <number>"), ("fall 5 up", "none"),
            ("back", "ok"), ("patterns", "up <number> | down <number>"), ("moves", "1 1 2"),
            ("again", "ok"), ("take up 1", "ok"), ("patterns", "up <number> | down <number>"), ("counts 0 9", "2 2")])

    def test_lines_are_numbered_from_0(self):
        desk = Desk()
        for number in range(12):
            self.assertEqual(desk.say(f"line 0 a {number}"), str(number))
        desk.say("back")
        self.assertEqual(desk.say("line 0 b"), "11")

    def test_wholes(self):
        for text in GOOD_WHOLES:
            with self.subTest(text=text):
                self.assertEqual(Desk().say(f"line {text} a"), "0")
                desk = desk_of(["line -999999999 a"])
                self.assertEqual(desk.say(f"counts {text} 999999999"), "1" if text == "-999999999" else "0")
                self.assertEqual(desk.say(f"counts -999999999 {text}"), "0" if text == "-999999999" else "1")
                self.assertEqual(desk.say(f"counts {text} {text}"), "0")

    def test_moments(self):
        for text in GOOD_WHOLES:
            with self.subTest(text=text):
                desk = desk_of([f"line {text} a"])
                if text != "-999999999":
                    self.assertEqual(self.refuses(desk, NoMoment, f"line {int(text) - 1} a").last, int(text))
                self.assertEqual(desk.say(f"line {text} a"), "1")

    def test_wrong_wholes(self):
        desk = desk_of(["line 1 a"])
        for text in WRONG_WHOLES:
            for row in (f"line {text} a", f"counts {text} 5", f"counts 5 {text}", f"counts {text} {text}"):
                with self.subTest(row=row):
                    self.refuses(desk, NoRow, row)

    def test_lines(self):
        for line in GOOD_LINES:
            with self.subTest(line=line):
                desk = Desk()
                self.assertEqual(desk.say(f"line 5 {line}"), "0")
                self.assertEqual(desk.say(f"fall {line}"), desk.say("patterns"))
                self.assertEqual(desk.say("counts 5 6"), "1")

    def test_wrong_lines(self):
        desk = desk_of(["line 1 a"])
        for line in WRONG_LINES:
            for row in (f"line 1 {line}", f"fall {line}"):
                with self.subTest(row=row):
                    self.refuses(desk, NoRow, row)

    def test_patterns(self):
        for pattern in GOOD_PATTERNS:
            with self.subTest(pattern=pattern):
                desk = Desk()
                self.refuses(desk, NoPattern, f"take {pattern}")
                self.assertEqual(desk.say(f"put {pattern}"), "ok")
                self.assertEqual(desk.say("patterns"), pattern)
                self.refuses(desk, NoPattern, f"put {pattern}")
                self.assertEqual(desk.say(f"take {pattern}"), "ok")
                self.assertEqual(desk.say("patterns"), "none")

    def test_wrong_patterns(self):
        desk = desk_of(["put a", "line 1 a"])
        for pattern in WRONG_PATTERNS:
            for row in (f"put {pattern}", f"take {pattern}"):
                with self.subTest(row=row):
                    self.refuses(desk, NoRow, row)

    def test_what_is_no_row(self):
        desk = desk_of(["line 1 a", "line 2 b", "back"])
        rows = ["", " ", "\n", "a", "none", "ok", "say", "Line 3 a", "LINE 3 a", "lines 3 a", "holes a", "under 0"]
        rows += [word + tail for word in ALONE for tail in (" ", "\n", " a", " 0", "s", "  ", " " + word)]
        rows += [head + word for word in ALONE for head in (" ", "\n", "a ", "un")]
        rows += [word.upper() for word in ALONE + GOING_ON] + [word.title() for word in ALONE]
        rows += [word + tail for word in GOING_ON for tail in ("", " ", "  ", "\n")]
        rows += ["line 3", "line 3 ", "line a", "line a 3", "line 3  a", "line  3 a", " line 3 a", "line 3 a "]
        rows += ["counts 1", "counts 1 ", "counts  1 2", "counts 1  2", "counts 1 2 ", "counts 1 2 3", " counts 1 2"]
        rows += ["counts 1\n2", "line 3\na", "put\na", "fall\na", "put  a", "fall  a", " put a", " fall a", "take  a"]
        rows += ["a" * 2000, " " * 2000, "\n" * 2000, "back " * 400]
        for row in rows:
            with self.subTest(row=row):
                self.refuses(desk, NoRow, row)
        self.assertEqual(desk.say("again"), "ok")

    def test_no_row_ahead_of_what_the_log_refuses(self):
        desk = desk_of([f"line 5 a {number}" for number in range(120)] + [f"put {letter}" for letter in TWELVE.split()])
        for row in ("line 4 a  b", "line 05 a", "line 6", "line 4 " + TWELVE + " m", "put a ", "put =a", "take <x>"):
            self.refuses(desk, NoRow, row)
        self.assertEqual(self.refuses(desk, NoMoment, "line 4 a").last, 5)
        self.refuses(desk, TooMany, "line 5 a")
        self.refuses(desk, NoPattern, "put a")
        self.refuses(desk, TooMany, "put m")
        self.refuses(desk, NoPattern, "take m")

    def test_nothing_left(self):
        desk = Desk()
        self.refuses(desk, NothingLeft, "back")
        self.refuses(desk, NothingLeft, "again")
        desk.say("put a")
        self.refuses(desk, NothingLeft, "again")
        self.assertEqual(desk.say("back"), "ok")
        self.refuses(desk, NothingLeft, "back")
        self.assertEqual(desk.say("again"), "ok")
        self.refuses(desk, NothingLeft, "again")

    def test_what_is_refused_leaves_what_can_be_done_again(self):
        desk = desk_of(["line 1 a", "put a", "back"])
        for row in ("line 0 a", "line 1  a", "put =a", "take a", "none"):
            with self.assertRaises(GatherError):
                desk.say(row)
        self.assertEqual(desk.say("again"), "ok")
        self.assertEqual(desk.say("patterns"), "a")

    def test_by_the_plain_sieve(self):
        rows = ["line 0 a 1", "line 0 a 2", "line 0 b 3", "line 0 b 4", "line 0 c 5"]
        self.assertEqual(desk_of(rows).say("patterns"), "<name> <number>")
        rows += ["line 0 c 6"]
        self.assertEqual(desk_of(rows).say("patterns"), "a <number> | b <number> | c <number>")
        rows += ["line 0 d 7", "line 0 d 8"]
        self.assertEqual(desk_of(rows).say("patterns"), "<name> <number>")

    def test_patterns_by_hand_stand_ahead(self):
        desk = desk_of(["line 0 a", "put z z", "put b"])
        self.assertEqual(desk.say("patterns"), "b | z z | a")
        self.assertEqual(desk.say("counts 0 1"), "0 0 1")

    def test_by_hand_ahead_of_what_is_narrower(self):
        desk = desk_of(["line 0 a 1", "put <any> <any>", "put <any> 7"])
        desk.say("take <any> <any>")
        self.assertEqual(desk.say("fall a 1"), "a 1")
        self.assertEqual(desk.say("fall a 7"), "<any> 7")
        desk = desk_of(["line 0 x 1", "line 0 y 1", "line 0 y 2", "line 0 x 2", "put <any> 3"])
        self.assertEqual(desk.say("fall x 3"), "<any> 3")
        self.assertEqual(desk.say("fall x 4"), "x <number>")

    def test_a_fall_is_no_deed(self):
        desk = desk_of(["line 0 a", "line 1 b", "back"])
        before = look(desk)
        self.assertEqual(desk.say("fall a"), "a")
        self.assertEqual(desk.say("fall c"), "none")
        self.assertEqual(look(desk), before)
        self.assertEqual(desk.say("again"), "ok")

    def test_words_that_look_like_holes(self):
        desk = desk_of(["line 0 <any> = 1", "line 0 <any> = 2"])
        self.assertEqual(desk.say("patterns"), "=<any> == <number>")
        self.assertEqual(desk.say("put =<any> == 1"), "ok")
        self.assertEqual(desk.say("patterns"), "=<any> == 1 | =<any> == 2")
        self.assertEqual(desk.say("fall <any> = 1"), "=<any> == 1")

    def test_moves_in_order_of_the_patterns(self):
        desk = desk_of(["line 0 b 1", "line 0 b 2", "line 0 b 3", "line 0 a 1", "line 0 a 2", "put <any> 1"])
        # Old a <number>, then b <number>; new <name> <number>, then <any> 1.
        self.assertEqual(desk.say("moves"), "1 1 2 1")

    def test_each_desk_has_its_own_log(self):
        one, other = Desk(), Desk()
        one.say("line 0 a")
        self.assertEqual(other.say("patterns"), "none")
        self.assertEqual(other.say("line -5 b"), "0")


class Walks(unittest.TestCase):
    def some_row(self, chance):
        whole = chance.choice(["0", "0", "1", "1", "2", "-1", "3", "-0", "01"])
        line = " ".join(chance.choice(["a", "b", "7", "8", "X", "<any>"]) for place in range(chance.randint(1, 3)))
        pattern = " ".join(chance.choice(["a", "b", "7", "<number>", "<name>", "<any>", "=<any>"])
                           for place in range(chance.randint(1, 2)))
        rows = [f"line {whole} {line}"] * 6 + [f"put {pattern}"] * 2 + [f"take {pattern}"] * 3 + ["back"] * 3
        rows += ["again"] * 2 + ["patterns", "moves", f"fall {line}", f"counts {whole} 2"]
        row = chance.choice(rows)
        if chance.random() < 0.05:
            at = chance.randint(0, len(row))
            row = row[:at] + chance.choice(["", " ", "\n", "=", "<", "0", "-"]) + row[at + chance.randint(0, 1):]
        return row

    def told(self, desk, row):
        try:
            return (None, desk.say(row))
        except GatherError as error:
            return (type(error).__name__, None)

    def test_against_the_model(self):
        chance = random.Random(60)
        seen = set()
        for trial in range(80):
            desk, model = Desk(), ModelDesk()
            for step in range(60):
                row = self.some_row(chance)
                told = self.told(desk, row)
                self.assertEqual(told, model.say(row), row)
                seen.add(told[0])
                for question in ("patterns", "moves", "counts 0 3", "fall a 7", "fall b"):
                    self.assertEqual((None, desk.say(question)), model.say(question))
        self.assertEqual(seen, {None, "NoRow", "NoMoment", "NoPattern", "NothingLeft"})

    def test_soon(self):
        chance = random.Random(61)
        start = time.monotonic()
        desk = Desk()
        for moment in range(120):
            words = [chance.choice("abcdefghi") * 150 for place in range(12)]
            self.assertEqual(desk.say(f"line {moment} {' '.join(words)}"), str(moment))
            desk.say("patterns")
            desk.say("moves")
            desk.say(f"fall {' '.join(words)}")
        self.assertLess(time.monotonic() - start, 60)


if __name__ == "__main__":
    unittest.main()
