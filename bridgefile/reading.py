"""The calls that only ask. Each gives back its answer: a number, then each list behind its length."""

from bridgefile.figures import limit_on, standings, statements
from bridgefile.record import FOUND, LAST_DAY
from bridgefile.refusals import NOT_LET, NOT_THERE, NOTHING

MOST_DAYS_BEHIND = 500
MOST_MUCH = 1000
DAYS_LOOKED_AHEAD = 131072


def known(bridge, part, day, n):
    """The part's crack on that day by the first n entries; its source, what it bears."""
    if part >= len(bridge.parts):
        return [NOT_THERE]
    if day > LAST_DAY or n > len(bridge.entries):
        return [NOT_LET]
    stands = standings_by(bridge, day, n)[part]
    return [stands.crack, 2, told_source(stands.source), stands.bears]


def limit(bridge, day, n):
    """The limit of that day by the first n entries; the weakest part, its source, its crack."""
    if day > LAST_DAY or n > len(bridge.entries):
        return [NOT_LET]
    stand = standings_by(bridge, day, n)
    borne_each = [each.bears for each in stand]
    least = min(borne_each)
    weakest = borne_each.index(least)
    return [least, 3, weakest, told_source(stand[weakest].source), stand[weakest].crack]


def standings_by(bridge, day, n):
    """How each part stands on that day by the first n entries."""
    return standings(bridge.parts, statements(bridge.entries, n), day)


def told_source(source):
    """A source as it's told: its number and 1, so that 0 is free for none."""
    if source is None:
        return 0
    return source.number + 1


def posted(bridge, day):
    """What was posted on that day; the day when that was posted, how many entries there were."""
    if day > bridge.today:
        return [NOT_LET]
    posting = posting_on(bridge.postings, day)
    if posting is None:
        return [NOTHING]
    return [posting.much, 2, posting.day, posting.made]


def posting_on(postings, day):
    """The posting made last, on that day or before; None if there is none."""
    last = None
    for posting in postings:
        if posting.day <= day:
            last = posting
    return last


def wrong(bridge, first, last):
    """On how many days from the first to the last too much was posted; the first one, the most that was too much."""
    if last < first or last > bridge.today or last - first > MOST_DAYS_BEHIND:
        return [NOT_LET]
    said = said_now(bridge)
    days = []
    most = 0
    for day in range(first, last + 1):
        excess = too_much(bridge, said, day)
        if excess > 0:
            days.append(day)
            most = max(most, excess)
    if len(days) == 0:
        return [0]
    return [len(days), 2, days[0], most]


def too_much(bridge, said, day):
    """By how much more was posted on that day than its limit is by what's said; 0 if nothing was posted."""
    posting = posting_on(bridge.postings, day)
    if posting is None:
        return 0
    return max(0, posting.much - limit_on(bridge.parts, said, day))


def said_now(bridge):
    """What those entries say that count by all the entries."""
    return statements(bridge.entries, len(bridge.entries))


def falls(bridge, much):
    """Behind how many days from today the limit is below that much for the first time."""
    if not 1 <= much <= MOST_MUCH:
        return [NOT_LET]
    said = said_now(bridge)
    # No entry is of a day behind today, so from today on cracks only grow and the limit never rises:
    # the days before some day are all not below, those from it on all are, and that day is found by halving.
    low = 0
    high = DAYS_LOOKED_AHEAD
    while low < high:
        middle = (low + high) // 2
        if limit_on(bridge.parts, said, bridge.today + middle) < much:
            high = middle
        else:
            low = middle + 1
    if low == DAYS_LOOKED_AHEAD:
        return [NOTHING]
    return [low]


def due(bridge, days):
    """How many parts were last found more than so many days before today; which ones."""
    late = [part for part, day in enumerate(last_found(bridge)) if bridge.today - day > days]
    return [len(late)] + behind_length(late)


def last_found(bridge):
    """Of each part the last day of an entry found that isn't struck, 0 if there's none."""
    last = [0] * len(bridge.parts)
    for statement in said_now(bridge):
        if bridge.entries[statement.number].kind == FOUND:
            last[statement.part] = max(last[statement.part], statement.day)
    return last


def changes(bridge, part, day):
    """How many times the part's crack on that day became another, entry by entry; of each time n and the crack."""
    if part >= len(bridge.parts):
        return [NOT_THERE]
    if day > LAST_DAY:
        return [NOT_LET]
    told = []
    before = None
    for n in range(len(bridge.entries) + 1):
        crack = standings_by(bridge, day, n)[part].crack
        # By no entry there's nothing before: 0 is always told.
        if crack != before:
            told.extend([n, crack])
        before = crack
    return [len(told) // 2] + behind_length(told)


def state(bridge):
    """Today; then all that the file holds of the parts, the entries and the postings."""
    parts = []
    for part in bridge.parts:
        parts.extend([part.sound, part.cost, part.growth])
    entries = []
    for entry in bridge.entries:
        entries.extend([entry.kind, entry.about, entry.day, entry.crack])
    postings = []
    for posting in bridge.postings:
        postings.extend([posting.day, posting.made, posting.much])
    return [bridge.today] + behind_length(parts) + behind_length(entries) + behind_length(postings)


def behind_length(numbers):
    """A list as it's told in an answer: behind how many numbers it has."""
    return [len(numbers)] + numbers
