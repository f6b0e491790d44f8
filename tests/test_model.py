"""Many lists of calls, held against the model that goes by the document's words."""

import random
import unittest
from collections import Counter

from helper import (BIGGEST, ask, begins, changes, day, due, falls, found, known, limit, mended, post, posted, right,
                    state, strike, wrong)
from model import NAMES, Model, expected

ENTERING = (2, 3, 4, 5)


def some_parts(chance):
    if chance.random() < 0.05:
        many = chance.choice([0, 1, 3, 36, 60])
        return [chance.choice([0, 1, 100, 101, 1000, 1001, BIGGEST]) for number in range(many)]
    numbers = []
    for part in range(chance.choice([1, 2, 3, 3, 12])):
        numbers += [chance.choice([1, 200, 300, 300, 1000]), chance.choice([0, 1, 2, 7, 100]),
                    chance.choice([0, 1, 10, 33, 100])]
    return numbers


class Chooser:
    """Chooses calls that fit how the bridge stands; wild is how often a number is one that's likely refused."""

    def __init__(self, chance, wild, step):
        self.chance, self.wild, self.step, self.bridge, self.calls, self.told = chance, wild, step, Model(), [], []

    def make(self, call):
        self.calls.append(call)
        self.told.append(self.bridge.answer(call))

    def number(self, most):
        if self.chance.random() < self.wild:
            return self.chance.choice([0, most + 1, 500, 1000, 1001, 10001, 100000, 100001, BIGGEST])
        return self.chance.randint(0, most)

    def part(self):
        return self.number(len(self.bridge.parts) - 1)

    def on(self):
        return self.number(self.bridge.today)

    def later(self):
        return self.number(self.bridge.today + self.step)

    def entry(self):
        return self.number(max(0, len(self.bridge.entries) - 1))

    def n(self):
        return self.number(len(self.bridge.entries))

    def wrong(self):
        first = self.on()
        if self.chance.random() < 0.2:
            return wrong(first, self.on())
        return wrong(first, min(first + self.chance.choice([0, 1, 5, self.step, 499, 500, 501]), self.bridge.today))

    def falls(self):
        least = self.bridge.limit(self.bridge.today, len(self.bridge.entries))[0]
        return falls(self.chance.choice([self.number(1000), max(0, least - self.number(50)), least, least + 1]))

    def writing(self):
        return self.chance.choice([
            lambda: day(self.number(self.step)), lambda: day(self.number(self.step)), post,
            lambda: found(self.part(), self.on(), self.number(30)),
            lambda: found(self.part(), self.on(), self.number(30)), lambda: mended(self.part(), self.on()),
            lambda: strike(self.entry()), lambda: right(self.entry(), self.number(30))])()

    def reading(self):
        return self.chance.choice([
            lambda: known(self.part(), self.later(), self.n()), lambda: limit(self.later(), self.n()),
            lambda: posted(self.on()), self.wrong, self.falls, lambda: due(self.on()),
            lambda: changes(self.part(), self.later()), state])()


def some_calls(chance, wild, step, many):
    chooser = Chooser(chance, wild, step)
    for call in range(many):
        if call == 0 or chance.random() < 0.005:
            chooser.make(begins(*some_parts(chance)))
        elif call == 1:
            chooser.make(day(chance.choice([1, 5, step, 500])))
        elif chance.random() < 0.55:
            chooser.make(chooser.writing())
        else:
            chooser.make(chooser.reading())
    return chooser


class ByTheModel(unittest.TestCase):
    def check(self, seed, calls):
        self.assertEqual(ask(*calls), expected(calls), (seed, calls))

    def test_random_lists(self):
        seen = Counter()
        for seed in range(500):
            chance = random.Random(seed)
            chosen = some_calls(chance, chance.choice([0, 0.02, 0.2]), chance.choice([3, 9, 60, 400]), 80)
            self.assertEqual(ask(*chosen.calls), chosen.told, (seed, chosen.calls))
            for call, answer in zip(chosen.calls, chosen.told):
                seen[NAMES[call[0]], min(answer[0], 1)] += 1
        # That the lists are worth the asking: each of these was answered often.
        for name, number in (("wrong", 1), ("wrong", 0), ("wrong", -1), ("falls", 1), ("falls", 0), ("falls", -1),
                             ("falls", -6), ("posted", 1), ("posted", -1), ("posted", -6), ("limit", 1),
                             ("limit", -1), ("due", 1), ("due", 0), ("changes", 1), ("changes", -2)):
            self.assertGreater(seen[name, number], 50, (name, number))

    def test_full_files(self):
        for seed in range(100):
            chance = random.Random(seed)
            chooser = Chooser(chance, 0, 9)
            chooser.make(begins(*[90, 3, 33] * 3))
            chooser.make(day(9))
            while len(chooser.calls) < 66:
                call = chooser.writing()
                if call[0] in ENTERING:
                    chooser.make(call)
            head = chooser.calls
            made = len(chooser.bridge.entries)
            for n in range(made + 2):
                asked = [known(part, on, n) for part in range(3) for on in (0, 4, 9, 12)] + [limit(9, n)]
                self.check(seed, head + asked)
            self.check(seed, head + [changes(part, on) for part in range(3) for on in (0, 4, 9)] +
                       [due(4), falls(70), falls(20), state()])
