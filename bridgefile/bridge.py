"""The calls on one bridge, told in one list of whole numbers, and their answers."""

from bridgefile.reading import changes, due, falls, known, limit, posted, state, wrong
from bridgefile.record import Bridge
from bridgefile.writing import begins, days_go_by, found, mended, post, right, strike

BEGINS = 0
POST = 6

# How many whole numbers stand behind each call's own number; begins tells its own count.
HANDED = (0, 1, 3, 2, 1, 2, 0, 3, 2, 1, 2, 1, 1, 2, 0)


def answers(calls):
    """The answers to the calls on a new bridge, each behind how many numbers it has."""
    bridge = Bridge()
    told = []
    for call, handed in single_calls(calls):
        answer = answer_of(bridge, call, handed)
        told.append(len(answer))
        told.extend(answer)
    return told


def single_calls(calls):
    """The calls one by one: of each its number and the list of what's handed to it."""
    single = []
    at = 0
    while at < len(calls):
        call = calls[at]
        count = HANDED[call]
        at = at + 1
        if call == BEGINS:
            count = calls[at]
            at = at + 1
        single.append((call, calls[at:at + count]))
        at = at + count
    return single


def answer_of(bridge, call, handed):
    """What one call answers."""
    if call <= POST:
        return answer_of_writing(bridge, call, handed)
    return answer_of_reading(bridge, call, handed)


def answer_of_writing(bridge, call, handed):
    """What one of the calls answers that change the bridge."""
    if call == BEGINS:
        return begins(bridge, handed)
    if call == 1:
        return days_go_by(bridge, handed[0])
    if call == 2:
        return found(bridge, handed[0], handed[1], handed[2])
    if call == 3:
        return mended(bridge, handed[0], handed[1])
    if call == 4:
        return strike(bridge, handed[0])
    if call == 5:
        return right(bridge, handed[0], handed[1])
    return post(bridge)


def answer_of_reading(bridge, call, handed):
    """What one of the calls answers that only ask."""
    if call == 7:
        return known(bridge, handed[0], handed[1], handed[2])
    if call == 8:
        return limit(bridge, handed[0], handed[1])
    if call == 9:
        return posted(bridge, handed[0])
    if call == 10:
        return wrong(bridge, handed[0], handed[1])
    if call == 11:
        return falls(bridge, handed[0])
    if call == 12:
        return due(bridge, handed[0])
    if call == 13:
        return changes(bridge, handed[0], handed[1])
    return state(bridge)
