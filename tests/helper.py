"""The calls as lists of whole numbers, and their answers taken apart again."""

import unittest

from bridgefile.bridge import answers

BIGGEST = 4294967295


def begins(*numbers):
    return [0, len(numbers), *numbers]


def day(days):
    return [1, days]


def found(part, on, crack):
    return [2, part, on, crack]


def mended(part, on):
    return [3, part, on]


def strike(entry):
    return [4, entry]


def right(entry, crack):
    return [5, entry, crack]


def post():
    return [6]


def known(part, on, n):
    return [7, part, on, n]


def limit(on, n):
    return [8, on, n]


def posted(on):
    return [9, on]


def wrong(first, last):
    return [10, first, last]


def falls(much):
    return [11, much]


def due(days):
    return [12, days]


def changes(part, on):
    return [13, part, on]


def state():
    return [14]


def ask(*calls):
    """The answer to each call, asked in one list as the document lets it: 1 to 80 calls, 5100 numbers."""
    assert 1 <= len(calls) <= 80, len(calls)
    told = answers([number for call in calls for number in call])
    single = []
    at = 0
    while at < len(told):
        single.append(told[at + 1:at + 1 + told[at]])
        at += 1 + told[at]
    assert at == len(told) and len(single) == len(calls), (calls, told)
    return single


class Case(unittest.TestCase):
    def check(self, calls, wanted):
        """Each call answers as wanted: a whole number stands for an answer of that number alone."""
        wanted = [[answer] if isinstance(answer, int) else answer for answer in wanted]
        self.assertEqual(ask(*calls), wanted)

    def check_refused(self, before, refused, number):
        """Each of the refused calls answers that number, and behind it all is as it was."""
        answered = ask(*before)
        probes = probes_of(before, answered)
        plain = ask(*before, *probes)[len(before):]
        for call in refused:
            with self.subTest(call=call):
                told = ask(*before, call, *probes)
                self.assertEqual(told[:len(before)], answered)
                self.assertEqual(told[len(before)], [number])
                self.assertEqual(told[len(before) + 1:], plain)


def probes_of(before, answered):
    """Calls whose answers tell what the bridge holds: all of it by state, then by what follows from it."""
    entries = 0
    for call, answer in zip(before, answered):
        if call[0] == 0 and answer[0] >= 0:
            entries = 0
        elif call[0] in (2, 3, 4, 5) and answer[0] >= 0:
            entries += 1
    room = 79 - len(before)
    probes = [state(), day(1), post(), found(0, 0, 7), known(0, 100000, entries), known(0, 0, entries)]
    for n in sorted({entries, entries // 2, 0}, reverse=True):
        for part in range(12):
            probes.append(known(part, 5, n))
    return probes[:room]
