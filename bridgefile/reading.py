"""The calls that only ask. Each gives back its answer: a number, then each list behind its length."""

from bridgefile.figures import borne, crack_on, source_on, statements
from bridgefile.record import LAST_DAY
from bridgefile.refusals import NOT_LET, NOT_THERE


def known(bridge, number, day, n):
    """The crack of the part numbered so on that day by the first n entries, its source, what it bears."""
    if number >= len(bridge.parts):
        return [NOT_THERE]
    if day > LAST_DAY or n > len(bridge.entries):
        return [NOT_LET]
    part = bridge.parts[number]
    source = source_on(statements(bridge.entries, n), number, day)
    crack = crack_on(part, source, day)
    return [crack, 2, told_source(source), borne(part, crack)]


def told_source(source):
    """A source as it's told: its number and 1, so that 0 is free for none."""
    if source is None:
        return 0
    return source.number + 1
