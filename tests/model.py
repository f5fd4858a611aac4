"""The points on gathering, falling and the log once more, slow and plain, to hold the program against."""

import itertools
import re


def kind(word):
    if re.fullmatch("-?[0-9]+", word):
        return "number"
    return "name" if re.fullmatch("[a-z]+", word) else "other"


def fits(pattern, line):
    words = line.split(" ")
    return len(words) == len(pattern) and all(
        part in (("word", word), ("hole", kind(word)), ("hole", "any")) for part, word in zip(pattern, words))


def order(pattern):
    def part_order(part):
        if part[0] == "word":
            return (0, len(part[1]), part[1])
        return (1, ["number", "name", "any"].index(part[1]), "")
    return (len(pattern), [part_order(part) for part in pattern])


def part_of(words):
    """The narrowest part that all the words fit, tried from the narrowest on."""
    if len(set(words)) == 1:
        return ("word", words[0])
    for hole in ("number", "name"):
        if {kind(word) for word in words} == {hole}:
            return ("hole", hole)
    return ("hole", "any")


def gather(lines, sieve):
    """The patterns of the lines, found with a heap of groups instead of groups within groups."""
    spread, least = sieve
    alike = {line: line.split(" ") for line in lines}.values()
    heap = [[words for words in alike if len(words) == many] for many in range(1, 20)]
    heap = [group for group in heap if group]
    told = []
    while heap:
        group = heap.pop()
        chances = []
        for place, column in enumerate(zip(*group)):
            tally = {word: column.count(word) for word in column}
            if 2 <= len(tally) <= spread and min(tally.values()) >= least:
                chances.append((len(tally), place))
        if chances:
            place = min(chances)[1]
            heap += [[words for words in group if words[place] == word] for word in {row[place] for row in group}]
        else:
            told.append([part_of(column) for column in zip(*group)])
    return sorted(told, key=order)


def loose(pattern):
    return [0 if part[0] == "word" else {"number": 1, "name": 1, "any": 2}[part[1]] for part in pattern]


def fall(line, patterns):
    fitting = sorted([pattern for pattern in patterns if fits(pattern, line)], key=order)
    return sorted(fitting, key=loose)[0] if fitting else None


def news(lines, sieve):
    return [at for at, line in enumerate(lines) if fall(line, gather(lines[:at], sieve)) is None]


class ModelLog:
    """A log that keeps nothing but its deeds, and goes through them for each question."""

    def __init__(self, sieve):
        self.sieve = sieve
        self.deeds = []
        self.done = 0
        self.ahead = []

    def deed(self, *deed):
        self.ahead = self.deeds[:self.done]
        self.deeds = self.ahead + [deed]
        self.done += 1

    def step(self, by):
        self.ahead = self.deeds[:self.done]
        self.done += by

    def rows(self, deeds=None):
        return [deed[1:] for deed in (self.now() if deeds is None else deeds) if deed[0] == "come"]

    def now(self):
        return self.deeds[:self.done]

    def hand(self, deeds=None):
        there = []
        for deed in self.now() if deeds is None else deeds:
            if deed[0] == "put":
                there.append(deed[1])
            if deed[0] == "take":
                there.remove(deed[1])
        return sorted(there, key=order)

    def found(self, deeds=None):
        hand = self.hand(deeds)
        lines = [line for moment, line in self.rows(deeds)]
        return gather([line for line in lines if not any(fits(pattern, line) for pattern in hand)], self.sieve)

    def falls(self, deeds=None):
        hand, found = self.hand(deeds), self.found(deeds)
        return [fall(line, hand) or fall(line, found) for moment, line in self.rows(deeds)]

    def patterns(self):
        return self.hand() + self.found()

    def counts(self, low, high):
        told = [(row[0], pattern) for row, pattern in zip(self.rows(), self.falls())]
        return [(pattern, len([1 for moment, other in told if low <= moment < high and other == pattern]))
                for pattern in self.patterns()]

    def holes(self, pattern):
        lines = [row[1].split(" ") for row, other in zip(self.rows(), self.falls()) if other == pattern]
        told = []
        for place, part in enumerate(pattern):
            if part[0] == "hole":
                words = [words[place] for words in lines]
                told.append([(word, words.count(word)) for word in sorted(set(words), key=lambda w: (len(w), w))])
        return told

    def moves(self):
        pairs = list(zip(self.falls(self.ahead), self.falls()))
        pairs.sort(key=lambda pair: (order(pair[0]), order(pair[1])))
        return [(old, new, pairs.count((old, new))) for (old, new), same in itertools.groupby(pairs)]
