"""The document's words once more, as slowly as they are told, to hold the program against.

Nothing is kept but the parts, today, the entries and how many were posted; every question goes through
all the entries anew.
"""


class Model:
    def __init__(self):
        self.parts, self.today, self.entries, self.posted = [(1, 0, 0)], 0, [], 0

    def begins(self, *numbers):
        told = [tuple(numbers[k:k + 3]) for k in range(0, len(numbers), 3)]
        if len(told) not in range(1, 13) or any(len(part) != 3 for part in told):
            return [-1]
        if any(b not in range(1, 1001) or c not in range(101) or g not in range(101) for b, c, g in told):
            return [-1]
        self.parts, self.today, self.entries, self.posted = told, 0, [], 0
        return [len(told)]

    def day(self, days):
        if days not in range(1, 10001):
            return [-1]
        if self.today + days > 100000:
            return [-5]
        self.today += days
        return [self.today]

    def found(self, part, day, crack):
        return self.entered("found", part, day, crack, [
            (-2, part not in range(len(self.parts))), (-1, day > self.today), (-1, crack > 1000)])

    def mended(self, part, day):
        return self.entered("mended", part, day, 0, [
            (-2, part not in range(len(self.parts))), (-1, day > self.today)])

    def strike(self, entry):
        return self.entered("struck", entry, 0, 0, self.about_entry(entry, ("found", "mended")))

    def right(self, entry, crack):
        return self.entered("right", entry, 0, crack, self.about_entry(entry, ("found",)) + [(-1, crack > 1000)])

    def about_entry(self, entry, sorts):
        if entry not in range(len(self.entries)):
            return [(-2, True)]
        struck = any(e[:2] == ("struck", entry) for e in self.entries)
        return [(-4, struck), (-4, self.entries[entry][0] not in sorts)]

    def entered(self, sort, about, day, crack, refusals):
        for number, due in refusals + [(-5, len(self.entries) == 60)]:
            if due:
                return [number]
        self.entries.append((sort, about, day, crack))
        return [len(self.entries) - 1]

    def post(self):
        if self.posted == 60:
            return [-5]
        self.posted += 1
        return [min(self.of_part(p, self.today, len(self.entries))[2] for p in range(len(self.parts)))]

    def known(self, part, day, n):
        if part not in range(len(self.parts)):
            return [-2]
        if day > 100000 or n > len(self.entries):
            return [-1]
        crack, source, bears = self.of_part(part, day, n)
        return [crack, 2, source, bears]

    def of_part(self, part, day, n):
        first = self.entries[:n]
        bears, cost, growth = self.parts[part]
        candidates = [
            (e[2], k) for k, e in enumerate(first)
            if e[0] in ("found", "mended") and e[1] == part and e[2] <= day
            and not any(s[:2] == ("struck", k) for s in first)]
        since, source = max(candidates, default=(0, -1))
        crack = 0
        if source >= 0:
            crack = ([first[source][3]] + [e[3] for e in first if e[:2] == ("right", source)])[-1]
        crack += -(-growth * (day - since) // 100)
        return crack, source + 1, max(0, bears - cost * crack)


NAMES = ("begins", "day", "found", "mended", "strike", "right", "post", "known")


def expected(calls):
    """What the model answers to each of the calls."""
    model = Model()
    told = []
    for call in calls:
        handed = call[2:] if call[0] == 0 else call[1:]
        told.append(getattr(model, NAMES[call[0]])(*handed))
    return told
