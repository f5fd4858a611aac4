"""Falling: under which of several patterns a line falls, and which lines are news."""

from loggather.gathering import PLAIN_SIEVE, gathered
from loggather.patterns import fits, is_hole, ordered


def looseness_of_part(part):
    if not is_hole(part):
        return 0
    return 2 if part[1] == "any" else 1


def looseness(pattern):
    """A number for each part of a pattern: the less, the narrower."""
    return [looseness_of_part(part) for part in pattern]


def falls_under(line, patterns):
    """The narrowest of the patterns that a line fits, or None."""
    fitting = ordered([pattern for pattern in patterns if fits(pattern, line)])
    return min(fitting, key=looseness, default=None)


def is_news(line, lines, sieve):
    return not any([fits(pattern, line) for pattern in gathered(lines, sieve)])


def news(lines, sieve=PLAIN_SIEVE):
    """The numbers of the lines that fit no pattern that is gathered from those ahead of them."""
    return [number for number, line in enumerate(lines) if is_news(line, lines[:number], sieve)]
