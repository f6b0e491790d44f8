"""The document's words once more, as slowly as they are told, to hold the program against.

Nothing is kept but the parts, today, the entries and the postings; every question goes through all the
entries anew.
"""


class Model:
    def __init__(self):
        self.parts, self.today, self.entries, self.postings = [(1, 0, 0)], 0, [], []

    def answer(self, call):
        handed = call[2:] if call[0] == 0 else call[1:]
        return getattr(self, NAMES[call[0]])(*handed)

    def begins(self, *numbers):
        told = [tuple(numbers[k:k + 3]) for k in range(0, len(numbers), 3)]
        if len(told) not in range(1, 13) or any(len(part) != 3 for part in told):
            return [-1]
        if any(b not in range(1, 1001) or c not in range(101) or g not in range(101) for b, c, g in told):
            return [-1]
        self.parts, self.today, self.entries, self.postings = told, 0, [], []
        return [len(told)]

    def day(self, days):
        if days not in range(1, 10001):
            return [-1]
        if self.today + days > 100000:
            return [-5]
        self.today += days
        return [self.today]

    def found(self, part, day, crack):
        return self.entered("found", part, day, crack, [
            (-2, part not in range(len(self.parts))), (-1, day > self.today), (-1, crack > 1000)])

    def mended(self, part, day):
        return self.entered("mended", part, day, 0, [
            (-2, part not in range(len(self.parts))), (-1, day > self.today)])

    def strike(self, entry):
        return self.entered("struck", entry, 0, 0, self.about_entry(entry, ("found", "mended")))

    def right(self, entry, crack):
        return self.entered("right", entry, 0, crack, self.about_entry(entry, ("found",)) + [(-1, crack > 1000)])

    def about_entry(self, entry, sorts):
        if entry not in range(len(self.entries)):
            return [(-2, True)]
        struck = any(e[:2] == ("struck", entry) for e in self.entries)
        return [(-4, struck), (-4, self.entries[entry][0] not in sorts)]

    def entered(self, sort, about, day, crack, refusals):
        for number, due in refusals + [(-5, len(self.entries) == 60)]:
            if due:
                return [number]
        self.entries.append((sort, about, day, crack))
        return [len(self.entries) - 1]

    def post(self):
        if len(self.postings) == 60:
            return [-5]
        self.postings.append((self.today, len(self.entries), self.least(self.today, len(self.entries))[0]))
        return [self.postings[-1][2]]

    def known(self, part, day, n):
        if part not in range(len(self.parts)):
            return [-2]
        if day > 100000 or n > len(self.entries):
            return [-1]
        crack, source, bears = self.of_part(part, day, n)
        return [crack, 2, source, bears]

    def limit(self, day, n):
        if day > 100000 or n > len(self.entries):
            return [-1]
        least, part = self.least(day, n)
        crack, source, bears = self.of_part(part, day, n)
        return [least, 3, part, source, crack]

    def posted(self, day):
        if day > self.today:
            return [-1]
        told = [posting for posting in self.postings if posting[0] <= day]
        return [told[-1][2], 2, told[-1][0], told[-1][1]] if told else [-6]

    def wrong(self, first, last):
        if last not in range(first, first + 501) or last > self.today:
            return [-1]
        over = {}
        for day in range(first, last + 1):
            much = self.posted(day)[0]
            least = self.least(day, len(self.entries))[0]
            if much > least:
                over[day] = much - least
        return [len(over), 2, min(over), max(over.values())] if over else [0]

    def falls(self, much):
        if much not in range(1, 1001):
            return [-1]
        behind = [days for days in (self.falls_of(p, much) for p in range(len(self.parts))) if days < 131072]
        return [min(behind)] if behind else [-6]

    def falls_of(self, part, much):
        """Told by reckoning back from the crack that's needed, not by looking at days."""
        bears, cost, growth = self.parts[part]
        said, since, source = self.source_of(part, self.today, len(self.entries))
        if self.of_part(part, self.today, len(self.entries))[2] < much:
            return 0
        if cost == 0 or growth == 0:
            return 131072
        needed = (bears - much) // cost + 1
        return since + 100 * (needed - said - 1) // growth + 1 - self.today

    def due(self, days):
        late = []
        for part in range(len(self.parts)):
            found = [0] + [e[2] for k, e in enumerate(self.entries)
                           if e[:2] == ("found", part) and not any(s[:2] == ("struck", k) for s in self.entries)]
            if max(found) + days < self.today:
                late.append(part)
        return [len(late), len(late), *late]

    def changes(self, part, day):
        if part not in range(len(self.parts)):
            return [-2]
        if day > 100000:
            return [-1]
        cracks = [self.of_part(part, day, n)[0] for n in range(len(self.entries) + 1)]
        told = [(n, crack) for n, crack in enumerate(cracks) if n == 0 or crack != cracks[n - 1]]
        return [len(told), 2 * len(told)] + [number for pair in told for number in pair]

    def state(self):
        sorts = {"found": 0, "mended": 1, "struck": 2, "right": 3}
        told = [self.today]
        for rows in (self.parts, [(sorts[e[0]], *e[1:]) for e in self.entries], self.postings):
            numbers = [number for row in rows for number in row]
            told += [len(numbers), *numbers]
        return told

    def least(self, day, n):
        return min((self.of_part(p, day, n)[2], p) for p in range(len(self.parts)))

    def of_part(self, part, day, n):
        bears, cost, growth = self.parts[part]
        said, since, source = self.source_of(part, day, n)
        crack = said - (-growth * (day - since) // 100)
        return crack, source + 1, max(0, bears - cost * crack)

    def source_of(self, part, day, n):
        """What the source says, its day, its number; 0, 0 and -1 without one."""
        first = self.entries[:n]
        candidates = [
            (e[2], k) for k, e in enumerate(first)
            if e[0] in ("found", "mended") and e[1] == part and e[2] <= day
            and not any(s[:2] == ("struck", k) for s in first)]
        if not candidates:
            return 0, 0, -1
        since, source = max(candidates)
        return ([first[source][3]] + [e[3] for e in first if e[:2] == ("right", source)])[-1], since, source


NAMES = ("begins", "day", "found", "mended", "strike", "right", "post", "known", "limit", "posted", "wrong", "falls",
         "due", "changes", "state")


def expected(calls):
    """What the model answers to each of the calls."""
    model = Model()
    return [model.answer(call) for call in calls]
