"""Helpers of the tests of the log: all that a log tells, and logs made at once."""

from handed import refused
from loggather.logs import Log


def look(log):
    """All that a log tells."""
    patterns = log.patterns()
    return repr((
        len(log), patterns, [log.under(number) for number in range(len(log))], log.counts(-(10 ** 50), 10 ** 50),
        log.counts(0, 2), [log.holes(pattern) for pattern in patterns], log.moves()))


def log_of(lines, hand=(), sieve=(3, 2)):
    """A log with the lines, at the moments 0, 1 and so on, and behind them the patterns by hand."""
    log = Log(sieve)
    for moment, line in enumerate(lines):
        log.come(moment, line)
    for pattern in hand:
        log.put(pattern)
    return log


def refused_and_unchanged(test, log, error, function, *things):
    """The error of a call that must have changed nothing of a log that can be told."""
    before = look(log)
    caught = refused(test, error, function, *things)
    test.assertEqual(look(log), before, "what was refused has changed the log")
    return caught
