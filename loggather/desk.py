"""The desk: rows of text that are done to a log, or ask it."""

from loggather.errors import NoRow, NoText
from loggather.logs import Log
from loggather.texts import read_pattern, show_pattern
from loggather.words import FIGURES, has_only, is_line

MOST_FIGURES = 9


def read_number(text):
    figures = text.removeprefix("-")
    if not has_only(figures, FIGURES) or len(figures) > MOST_FIGURES:
        raise NoRow("a whole number of at most nine figures is due")
    number = int(text)
    # Written once more, so that no 0 stands ahead, and no - ahead of 0.
    if str(number) != text:
        raise NoRow("a whole number is not written like this")
    return number


def read_line(text):
    if not is_line(text):
        raise NoRow("a line is due")
    return text


def read_parts(text):
    try:
        return read_pattern(text)
    except NoText:
        raise NoRow("a pattern is due") from None


def told(texts, between):
    return between.join(texts) if texts else "none"


def say_line(log, rest):
    moment, blank, line = rest.partition(" ")
    return str(log.come(read_number(moment), read_line(line)))


def say_put(log, rest):
    log.put(read_parts(rest))
    return "ok"


def say_take(log, rest):
    log.take(read_parts(rest))
    return "ok"


def say_fall(log, rest):
    fall = log.would_fall(read_line(rest))
    return "none" if fall is None else show_pattern(fall)


def say_counts(log, rest):
    low, blank, high = rest.partition(" ")
    return told([str(many) for pattern, many in log.counts(read_number(low), read_number(high))], " ")


def say_back(log):
    log.back()
    return "ok"


def say_again(log):
    log.again()
    return "ok"


def say_patterns(log):
    return told([show_pattern(pattern) for pattern in log.patterns()], " | ")


def say_moves(log):
    return told([str(many) for old, new, many in log.moves()], " ")


# Rows of one word, and the first words of those that go on.
ALONE = {"back": say_back, "again": say_again, "patterns": say_patterns, "moves": say_moves}
GOING_ON = {"line": say_line, "put": say_put, "take": say_take, "fall": say_fall, "counts": say_counts}


class Desk:
    """A log that is spoken to in rows of text."""

    def __init__(self):
        self.log = Log()

    def say(self, row):
        """Do what a row says, and tell its answer."""
        if row in ALONE:
            action = ALONE[row]
            return action(self.log)
        head, blank, rest = row.partition(" ")
        if head not in GOING_ON:
            raise NoRow("no row begins like this")
        longer_action = GOING_ON[head]
        return longer_action(self.log, rest)
