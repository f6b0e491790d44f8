"""The calls that change a bridge. Each gives back its answer: one number, alone if it's a refusal."""

from bridgefile.figures import limit_on, statements
from bridgefile.record import FOUND, LAST_DAY, MENDED, RIGHTED, STRUCK, Entry, Part, Posting
from bridgefile.refusals import CANT_BE, NOT_LET, NOT_THERE, TOO_MANY

MOST_PARTS = 12
MOST_SOUND = 1000
MOST_COST = 100
MOST_GROWTH = 100
MOST_DAYS = 10000
MOST_CRACK = 1000
MOST_ENTRIES = 60
MOST_POSTINGS = 60


def begins(bridge, numbers):
    """Begins a new file with the parts that the numbers tell, three each."""
    if len(numbers) % 3 != 0 or not 1 <= len(numbers) // 3 <= MOST_PARTS:
        return [NOT_LET]
    parts = [Part(numbers[k], numbers[k + 1], numbers[k + 2]) for k in range(0, len(numbers), 3)]
    if not all([is_let(part) for part in parts]):
        return [NOT_LET]
    bridge.begin(parts)
    return [len(parts)]


def is_let(part):
    """Whether the part's three numbers are in their ranges."""
    return 1 <= part.sound <= MOST_SOUND and part.cost <= MOST_COST and part.growth <= MOST_GROWTH


def days_go_by(bridge, days):
    """Lets so many days go by."""
    if not 1 <= days <= MOST_DAYS:
        return [NOT_LET]
    if bridge.today + days > LAST_DAY:
        return [TOO_MANY]
    bridge.today = bridge.today + days
    return [bridge.today]


def found(bridge, part, day, crack):
    """Enters that the part had that crack on that day."""
    if part >= len(bridge.parts):
        return [NOT_THERE]
    if day > bridge.today or crack > MOST_CRACK:
        return [NOT_LET]
    return enter(bridge, Entry(FOUND, part, day, crack))


def mended(bridge, part, day):
    """Enters that the part was mended on that day."""
    if part >= len(bridge.parts):
        return [NOT_THERE]
    if day > bridge.today:
        return [NOT_LET]
    return enter(bridge, Entry(MENDED, part, day, 0))


def strike(bridge, number):
    """Enters that an earlier entry counts no more."""
    if number >= len(bridge.entries):
        return [NOT_THERE]
    if is_struck(bridge.entries, number) or bridge.entries[number].kind not in (FOUND, MENDED):
        return [CANT_BE]
    return enter(bridge, Entry(STRUCK, number, 0, 0))


def right(bridge, number, crack):
    """Enters which crack an earlier entry says."""
    if number >= len(bridge.entries):
        return [NOT_THERE]
    if is_struck(bridge.entries, number) or bridge.entries[number].kind != FOUND:
        return [CANT_BE]
    if crack > MOST_CRACK:
        return [NOT_LET]
    return enter(bridge, Entry(RIGHTED, number, 0, crack))


def is_struck(entries, number):
    """Whether one of the entries strikes the one with that number."""
    return any([entry.kind == STRUCK and entry.about == number for entry in entries])


def enter(bridge, entry):
    """Makes the entry, if there's room for it; the refusal for want of room is the last of all that are due."""
    if len(bridge.entries) >= MOST_ENTRIES:
        return [TOO_MANY]
    bridge.entries.append(entry)
    return [len(bridge.entries) - 1]


def post(bridge):
    """Posts today's limit by all the entries."""
    if len(bridge.postings) >= MOST_POSTINGS:
        return [TOO_MANY]
    made = len(bridge.entries)
    much = limit_on(bridge.parts, statements(bridge.entries, made), bridge.today)
    bridge.postings.append(Posting(bridge.today, made, much))
    return [much]
