"""Logs that go long ways, held against the model: point 3, and 13 to 17 all at once."""

import random
import time
import unittest

from handed import asked_twice, refused
from loggather.errors import NoMoment, NoPattern, NothingLeft, TooMany
from loggather.logs import Log
from loggather.patterns import filled, fillings, fits
from model import ModelLog
from things import some_lines

PARTS = [("word", "a"), ("word", "7"), ("word", "b"), ("hole", "number"), ("hole", "name"), ("hole", "any")]


class Walk:
    """A log and its model, which are led the same way."""

    def __init__(self, test, chance):
        sieve = (chance.randint(2, 5), chance.choice([1, 2, 2, 2, 3]))
        self.test, self.chance = test, chance
        self.log, self.model = Log(sieve), ModelLog(sieve)
        self.lines = some_lines(chance, 12, 3) + ["a 7", "7"]

    def step(self):
        steps = [self.come] * 3 + [self.back] * 2 + [self.put, self.take, self.again]
        self.chance.choice(steps)()

    def come(self):
        rows = self.model.rows()
        last = rows[-1][0] if rows else -3
        moment, line = last + self.chance.choice([-1, 0, 0, 1]), self.chance.choice(self.lines)
        if rows and moment < last:
            error = refused(self.test, NoMoment, self.log.come, moment, line)
            self.test.assertEqual(error.last, last)
        else:
            self.test.assertEqual(self.log.come(moment, line), len(rows))
            self.model.deed("come", moment, line)

    def put(self):
        pattern = [self.chance.choice(PARTS) for place in range(self.chance.randint(1, 2))]
        if self.chance.random() < 0.3 and self.model.patterns():
            pattern = list(self.chance.choice(self.model.patterns()))
        if pattern in self.model.hand():
            refused(self.test, NoPattern, self.log.put, pattern)
        elif len(self.model.hand()) == 12:
            refused(self.test, TooMany, self.log.put, pattern)
        else:
            self.log.put(pattern)
            self.model.deed("put", list(pattern))
            pattern.clear()

    def take(self):
        if not self.model.patterns():
            return
        pattern = list(self.chance.choice(self.model.hand() or self.model.patterns()))
        if pattern not in self.model.hand():
            refused(self.test, NoPattern, self.log.take, pattern)
        else:
            self.log.take(pattern)
            self.model.deed("take", list(pattern))
            pattern.clear()

    def back(self):
        if self.model.done == 0:
            refused(self.test, NothingLeft, self.log.back)
        else:
            self.log.back()
            self.model.step(-1)

    def again(self):
        if self.model.done == len(self.model.deeds):
            refused(self.test, NothingLeft, self.log.again)
        else:
            self.log.again()
            self.model.step(1)

    def compare(self):
        test, log, model = self.test, self.log, self.model
        test.assertEqual(len(log), len(model.rows()))
        test.assertEqual(asked_twice(test, log.patterns), model.patterns())
        test.assertEqual([asked_twice(test, log.under, at) for at in range(len(log))], model.falls())
        low, high = self.chance.randint(-2, 6), self.chance.randint(-2, 6)
        test.assertEqual(asked_twice(test, log.counts, low, high), model.counts(low, high))
        for pattern in model.patterns():
            test.assertEqual(asked_twice(test, log.holes, pattern), model.holes(pattern))
        test.assertEqual(asked_twice(test, log.moves), model.moves())

    def hold_the_promise(self):
        """Point 3, looked at without the model's answers."""
        test, log, rows = self.test, self.log, self.model.rows()
        for number, (moment, line) in enumerate(rows):
            pattern = log.under(number)
            test.assertIn(pattern, log.patterns())
            test.assertTrue(fits(pattern, line))
            test.assertEqual(filled(pattern, fillings(pattern, line)), line)
        test.assertEqual(sum(many for pattern, many in log.counts(-99, 99)), len(rows))
        stayed = min(len(rows), len(self.model.rows(self.model.ahead)))
        test.assertEqual(sum(many for old, new, many in log.moves()), stayed)

    def compare_with_a_fresh_one(self):
        test, log, rows = self.test, self.log, self.model.rows()
        fresh, mixed = Log(self.model.sieve), Log(self.model.sieve)
        for pattern in self.model.hand():
            fresh.put(pattern)
        for moment, line in rows:
            fresh.come(moment, line)
        for line in self.chance.sample([line for moment, line in rows], len(rows)):
            mixed.come(0, line)
        for pattern in reversed(self.model.hand()):
            mixed.put(pattern)
        test.assertIs(log == fresh, True)
        test.assertEqual(log.patterns(), fresh.patterns())
        test.assertEqual(log.patterns(), mixed.patterns())


class Walks(unittest.TestCase):
    def test_against_the_model(self):
        chance = random.Random(30)
        for trial in range(60):
            walk = Walk(self, chance)
            for step in range(30):
                walk.step()
                walk.compare()
                walk.hold_the_promise()
            walk.compare_with_a_fresh_one()

    def test_long_walks(self):
        chance = random.Random(31)
        for trial in range(5):
            walk = Walk(self, chance)
            for step in range(300):
                walk.step()
            walk.compare()
            walk.compare_with_a_fresh_one()

    def test_soon(self):
        chance = random.Random(32)
        start = time.monotonic()
        log = Log((9, 1))
        for place in range(12):
            log.put([("hole", "number") if place == at else ("hole", "any") for at in range(12)])
        for moment in range(120):
            log.come(moment, " ".join(chance.choice("abcdefghi") * 150 for place in range(12)))
        for number in range(120):
            log.under(number)
            log.counts(0, 60)
            log.moves()
        self.assertLess(time.monotonic() - start, 60)


if __name__ == "__main__":
    unittest.main()
