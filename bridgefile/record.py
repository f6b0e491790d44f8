"""What a bridge's file holds: its parts, today, the entries, the postings."""

FOUND = 0
MENDED = 1
STRUCK = 2
RIGHTED = 3

LAST_DAY = 100000


class Part:
    """What a part bears when it's sound, what a unit of its crack costs, how a crack grows in a hundred days."""

    def __init__(self, sound, cost, growth):
        self.sound = sound
        self.cost = cost
        self.growth = growth


class Entry:
    """One entry: about is a part if it's found or mended, and an earlier entry's number otherwise."""

    def __init__(self, kind, about, day, crack):
        self.kind = kind
        self.about = about
        self.day = day
        self.crack = crack


class Posting:
    """What was posted, on which day, and by how many entries."""

    def __init__(self, day, made, much):
        self.day = day
        self.made = made
        self.much = much


class Bridge:
    """One bridge, with the file that it has at its beginning."""

    def __init__(self):
        self.begin([Part(1, 0, 0)])

    def begin(self, parts):
        """Takes a new file, with nothing in it but those parts."""
        self.parts = parts
        self.today = 0
        self.entries = []
        self.postings = []
