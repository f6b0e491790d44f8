"""Many lists of calls, held against the model that goes by the document's words."""

import random
import unittest

from helper import BIGGEST, ask, begins, day, found, known, mended, post, right, strike
from model import expected


def some_parts(chance):
    if chance.random() < 0.3:
        return [chance.choice([0, 1, 100, 101, 1000, 1001, BIGGEST]) for part in range(chance.choice([0, 1, 3, 36, 60]))]
    numbers = []
    for part in range(chance.randint(1, 12)):
        numbers += [chance.choice([1, 50, 1000]), chance.choice([0, 1, 7, 100]), chance.choice([0, 1, 33, 100])]
    return numbers


def some_call(chance, wild):
    """One call; wild is how often a number is one that's likely refused."""
    def number(most):
        if chance.random() < wild:
            return chance.choice([0, 1000, 1001, 10001, 100000, 100001, BIGGEST])
        return chance.randint(0, most)
    return chance.choice([
        lambda: day(number(6)), lambda: post(),
        lambda: found(number(2), number(9), number(30)), lambda: found(number(2), number(9), number(30)),
        lambda: mended(number(2), number(9)), lambda: strike(number(9)), lambda: right(number(9), number(30)),
        lambda: known(number(2), number(12), number(12)), lambda: known(number(2), number(12), number(12))])()


class Model(unittest.TestCase):
    def test_random_lists(self):
        for seed in range(1500):
            chance = random.Random(seed)
            wild = chance.choice([0, 0.02, 0.2])
            calls = [begins(*some_parts(chance)), day(chance.choice([1, 5, 9]))]
            calls += [some_call(chance, wild) for call in range(chance.randint(0, 70))]
            if chance.random() < 0.1:
                calls.insert(chance.randint(0, len(calls)), begins(*some_parts(chance)))
            self.assertEqual(ask(*calls), expected(calls), (seed, calls))

    def test_full_files(self):
        for seed in range(100):
            chance = random.Random(seed)
            entries = [call for call in [some_call(chance, 0) for call in range(400)] if call[0] in (2, 3, 4, 5)]
            calls = [begins(*[90, 3, 33] * 3), day(9)] + entries[:78]
            self.assertEqual(ask(*calls), expected(calls), (seed, calls))
            head = calls[:66]
            made = sum(1 for call, told in zip(head, expected(head)) if call[0] in (2, 3, 4, 5) and told[0] >= 0)
            for n in range(made + 2):
                asked = head + [known(part, on, n) for part in range(3) for on in (0, 4, 9, 12)]
                self.assertEqual(ask(*asked), expected(asked), (seed, asked))
