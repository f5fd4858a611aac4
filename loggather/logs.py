"""The log: lines that come, patterns by hand and gathered, and what each change has moved."""

from loggather.errors import NoLine, NoMoment, NoPattern, NothingLeft, TooMany
from loggather.falling import falls_under
from loggather.gathering import PLAIN_SIEVE, gathered
from loggather.patterns import is_hole, is_pattern, ordered, pattern_key
from loggather.words import is_line, word_key, words_of

MOST_LINES = 120
MOST_BY_HAND = 12


def how_often(things):
    """A dict that has of each thing how often it is there."""
    many = {}
    for thing in things:
        many[thing] = many.get(thing, 0) + 1
    return many


def words_in_order(words):
    many = how_often(words)
    return [(word, many[word]) for word in sorted(many, key=word_key)]


def pair_key(pair):
    old, new = pair
    return (pattern_key(old), pattern_key(new))


def moved(ahead, behind):
    """How many lines fell under which pattern ahead, and fall under which behind."""
    # Lines come and go at the end alone, so those at the same place in both are the same.
    many = how_often([(tuple(old), tuple(new)) for old, new in zip(ahead.falls, behind.falls)])
    return [(list(pair[0]), list(pair[1]), many[pair]) for pair in sorted(many, key=pair_key)]


class State:
    """What a log has at one time, and what follows from it; never changed once it is made."""

    def __init__(self, sieve, rows, by_hand):
        lines = [line for moment, line in rows]
        first = [falls_under(line, by_hand) for line in lines]
        self.rows = rows
        self.by_hand = by_hand
        self.found = gathered([line for line, fall in zip(lines, first) if fall is None], sieve)
        self.falls = [falls_under(line, self.found) if fall is None else fall for line, fall in zip(lines, first)]

    def fall_of(self, line):
        fall = falls_under(line, self.by_hand)
        return falls_under(line, self.found) if fall is None else fall


class Log:
    """Lines with moments, and the patterns under which they fall."""

    def __init__(self, sieve=PLAIN_SIEVE):
        self.sieve = tuple(sieve)
        self.state = State(self.sieve, [], [])
        # The state ahead of the last thing done.
        self.ahead = self.state
        # Pairs of lines and patterns by hand: the last one is the next to go to.
        self.past = []
        self.taken_back = []

    def __len__(self):
        return len(self.state.rows)

    def __eq__(self, other):
        if not isinstance(other, Log) or self.sieve != other.sieve:
            return False
        return self.state.rows == other.state.rows and self.state.by_hand == other.state.by_hand

    def held(self):
        return (self.state.rows, self.state.by_hand)

    def rows_with_falls(self):
        return list(zip(self.state.rows, self.state.falls))

    def turn_to(self, held):
        rows, by_hand = held
        self.ahead = self.state
        self.state = State(self.sieve, rows, by_hand)

    def do_deed(self, rows, by_hand):
        self.past.append(self.held())
        self.taken_back = []
        self.turn_to((rows, by_hand))

    def come(self, moment, line):
        """Let a line come; tell its number."""
        rows = self.state.rows
        if not is_line(line):
            raise NoLine("this is no line")
        if rows and moment < rows[-1][0]:
            raise NoMoment(rows[-1][0])
        if len(rows) >= MOST_LINES:
            raise TooMany("there are as many lines as there may be")
        self.do_deed(rows + [(moment, line)], self.state.by_hand)
        return len(rows)

    def put(self, pattern):
        """Put a pattern by hand."""
        by_hand = self.state.by_hand
        if not is_pattern(pattern) or pattern in by_hand:
            raise NoPattern("this is no pattern, or there by hand already")
        if len(by_hand) >= MOST_BY_HAND:
            raise TooMany("there are as many patterns by hand as there may be")
        self.do_deed(self.state.rows, ordered(by_hand + [pattern]))

    def take(self, pattern):
        """Take off a pattern that was put by hand."""
        by_hand = self.state.by_hand
        if pattern not in by_hand:
            raise NoPattern("this is not there by hand")
        self.do_deed(self.state.rows, [kept for kept in by_hand if kept != pattern])

    def back(self):
        """Take back the last deed that isn't taken back."""
        if not self.past:
            raise NothingLeft("there is no deed to take back")
        self.taken_back.append(self.held())
        self.turn_to(self.past.pop())

    def again(self):
        """Do again what was taken back last."""
        if not self.taken_back:
            raise NothingLeft("there is no deed to do again")
        self.past.append(self.held())
        self.turn_to(self.taken_back.pop())

    def moves(self):
        """What the last thing done has moved, as tuples (old, new, many)."""
        return moved(self.ahead, self.state)

    def patterns(self):
        """The patterns: those by hand, then those gathered."""
        return [list(pattern) for pattern in self.state.by_hand + self.state.found]

    def under(self, number):
        """The pattern under which the line of a number falls."""
        return list(self.state.falls[number])

    def would_fall(self, line):
        """The pattern under which a line would fall if it isn't gathered, or None."""
        return self.state.fall_of(line)

    def counts(self, low, high):
        """Of each pattern how many lines from low on, ahead of high, fall under it."""
        falls = [fall for (moment, line), fall in self.rows_with_falls() if low <= moment < high]
        return [(pattern, falls.count(pattern)) for pattern in self.patterns()]

    def holes(self, pattern):
        """For each hole of a pattern the words that fill it, and how often."""
        if pattern not in self.patterns():
            raise NoPattern("this is no pattern of the log")
        rows = [words_of(line) for (moment, line), fall in self.rows_with_falls() if fall == pattern]
        places = [place for place, part in enumerate(pattern) if is_hole(part)]
        return [words_in_order([words[place] for words in rows]) for place in places]
