"""What follows from the entries: sources, cracks, what a part bears, the limit."""

from bridgefile.record import RIGHTED, STRUCK


class Statement:
    """What an entry found or mended says of its part."""

    def __init__(self, number, part, day, crack):
        self.number = number
        self.part = part
        self.day = day
        self.crack = crack


class Standing:
    """How a part stands on a day: its source, None if there is none, its crack, and what it bears then."""

    def __init__(self, source, crack, bears):
        self.source = source
        self.crack = crack
        self.bears = bears


def statements(entries, n):
    """What those entries say that count by the first n entries, in the order in which they were made."""
    said = {}
    for number, entry in enumerate(entries[:n]):
        if entry.kind == STRUCK:
            said.pop(entry.about)
        elif entry.kind == RIGHTED:
            # The same key again keeps its place: what's put right was still made when it was made.
            said[entry.about] = put_right(said[entry.about], entry.crack)
        else:
            said[number] = Statement(number, entry.about, entry.day, entry.crack)
    return list(said.values())


def put_right(statement, crack):
    """The statement with another crack; the old one stays as it is."""
    return Statement(statement.number, statement.part, statement.day, crack)


def sources_on(said, count, day):
    """Of each of so many parts the statement that's its source on that day, None if there is none."""
    sources = [None] * count
    for statement in said:
        source = sources[statement.part]
        # Not only a later day: of several of one day the one made last is to be taken.
        if statement.day <= day and (source is None or statement.day >= source.day):
            sources[statement.part] = statement
    return sources


def standings(parts, said, day):
    """How each of the parts stands on that day."""
    sources = sources_on(said, len(parts), day)
    return [standing(part, source, day) for part, source in zip(parts, sources)]


def standing(part, source, day):
    """How the part stands on that day, with that source."""
    crack = crack_on(part, source, day)
    return Standing(source, crack, borne(part, crack))


def crack_on(part, source, day):
    """The part's crack on that day, as it grew from its source on."""
    if source is None:
        return grown(part, day)
    return source.crack + grown(part, day - source.day)


def grown(part, days):
    """By how much a crack of that part grows in so many days, rounded up."""
    return (part.growth * days + 99) // 100


def borne(part, crack):
    """What the part bears with such a crack."""
    return max(0, part.sound - part.cost * crack)


def limit_on(parts, said, day):
    """What the part bears on that day that bears least."""
    return min([each.bears for each in standings(parts, said, day)])
