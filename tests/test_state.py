"""state: today, the parts, the entries, the postings."""

from helper import (BIGGEST, Case, ask, begins, changes, day, due, falls, found, known, limit, mended, post, posted,
                    right, state, strike, wrong)

TWO = begins(100, 2, 10, 90, 1, 0)
PARTS = [6, 100, 2, 10, 90, 1, 0]


class State(Case):
    def check_state(self, calls, today, parts, entries, postings):
        wanted = [today]
        for rows in (parts, entries, postings):
            numbers = [number for row in rows for number in row]
            wanted += [len(numbers), *numbers]
        self.check([*calls, state()], [*ask(*calls), wanted])

    def test_at_the_beginning(self):
        self.check([state()], [[0, 3, 1, 0, 0, 0, 0]])

    def test_behind_begins(self):
        self.check([TWO, state()], [2, [0, *PARTS, 0, 0]])
        twelve = [number for part in range(12) for number in (1000 - part, part, 100 - part)]
        self.check([begins(*twelve), state()], [12, [0, 36, *twelve, 0, 0]])

    def test_today(self):
        self.check([day(7), state(), day(10000), state()],
                   [7, [7, 3, 1, 0, 0, 0, 0], 10007, [10007, 3, 1, 0, 0, 0, 0]])

    def test_behind_each_sort_of_entry(self):
        self.check([TWO, day(20), found(1, 5, 33), state(), mended(1, 8), state(), right(0, 44), state(), strike(1),
                    state()],
                   [2, 20,
                    0, [20, *PARTS, 4, 0, 1, 5, 33, 0],
                    1, [20, *PARTS, 8, 0, 1, 5, 33, 1, 1, 8, 0, 0],
                    2, [20, *PARTS, 12, 0, 1, 5, 33, 1, 1, 8, 0, 3, 0, 0, 44, 0],
                    3, [20, *PARTS, 16, 0, 1, 5, 33, 1, 1, 8, 0, 3, 0, 0, 44, 2, 1, 0, 0, 0]])

    def test_entries_stay_in_the_order_in_which_they_were_made(self):
        self.check_state([TWO, day(20), found(0, 9, 1), found(1, 2, 1000), found(0, 0, 0), strike(1), right(0, 0),
                          mended(0, 20)],
                         20, [(100, 2, 10), (90, 1, 0)],
                         [(0, 0, 9, 1), (0, 1, 2, 1000), (0, 0, 0, 0), (2, 1, 0, 0), (3, 0, 0, 0), (1, 0, 20, 0)], [])

    def test_behind_postings(self):
        self.check_state([TWO, post(), day(5), found(1, 5, 30), post(), right(0, 40), mended(0, 5), post(), day(1)],
                         6, [(100, 2, 10), (90, 1, 0)], [(0, 1, 5, 30), (3, 0, 0, 40), (1, 0, 5, 0)],
                         [(0, 0, 90), (5, 1, 60), (5, 3, 50)])

    def test_60_entries_and_postings(self):
        self.check_state([TWO] + [found(1, 0, 7)] * 60 + [mended(0, 0)] + [post()] * 15, 0,
                         [(100, 2, 10), (90, 1, 0)], [(0, 1, 0, 7)] * 60, [(0, 60, 83)] * 15)
        self.check_state([TWO] + [post()] * 62, 0, [(100, 2, 10), (90, 1, 0)], [], [(0, 0, 90)] * 60)

    def test_behind_a_second_begins(self):
        self.check_state([TWO, day(5), found(1, 5, 30), post(), begins(7, 0, 3)], 0, [(7, 0, 3)], [], [])
        self.check_state([TWO, day(5), found(1, 5, 30), post(), begins(7, 0, 3), day(2), mended(0, 1), post()], 2,
                         [(7, 0, 3)], [(1, 0, 1, 0)], [(2, 1, 7)])

    def test_behind_a_begins_that_is_refused(self):
        self.check_state([TWO, day(5), found(1, 5, 30), post(), begins(7, 0), begins(7, 0, 101), begins()], 5,
                         [(100, 2, 10), (90, 1, 0)], [(0, 1, 5, 30)], [(5, 1, 60)])

    def test_behind_each_refusal_all_is_as_it_was(self):
        before = [TWO, day(20), found(1, 5, 33), mended(1, 8), right(0, 44), strike(1), post()]
        by_number = {
            -1: [begins(), begins(0, 0, 0), begins(*[BIGGEST] * 60), day(0), day(10001), day(BIGGEST),
                 found(0, 21, 0), found(0, 0, 1001), found(0, BIGGEST, BIGGEST), mended(0, 21), mended(0, BIGGEST),
                 right(0, 1001), right(0, BIGGEST), known(0, 100001, 0), known(0, 0, 5), limit(100001, 0),
                 limit(0, 5), limit(BIGGEST, BIGGEST), posted(21), posted(BIGGEST), wrong(1, 0), wrong(0, 21),
                 wrong(BIGGEST, BIGGEST), falls(0), falls(1001), falls(BIGGEST), changes(0, 100001),
                 changes(0, BIGGEST)],
            -2: [found(2, 0, 0), mended(BIGGEST, 0), strike(4), right(4, 0), known(2, 0, 0), changes(2, 0),
                 changes(BIGGEST, BIGGEST)],
            -4: [strike(1), strike(2), strike(3), right(1, 0), right(2, 0), right(3, 0)],
            -6: [posted(19), posted(0)],
        }
        for number, refused in by_number.items():
            self.check_refused(before, refused, number)

    def test_asking_changes_nothing(self):
        before = [TWO, day(20), found(1, 5, 33), mended(1, 8), right(0, 44), strike(1), post()]
        asked = [known(1, 9, 4), limit(9, 4), posted(20), wrong(0, 20), falls(30), due(3), changes(1, 9), state()]
        self.check(before + asked * 2 + [state()],
                   ask(*before, *asked) + ask(*before, *asked)[len(before):] +
                   [[20, *PARTS, 16, 0, 1, 5, 33, 1, 1, 8, 0, 3, 0, 0, 44, 2, 1, 0, 0, 3, 20, 4, 46]])
