"""Promise 7: changes."""

from helper import BIGGEST, Case, ask, begins, changes, day, found, known, mended, post, right, state, strike

TWO = begins(100, 2, 0, 500, 1, 10)


class Changes(Case):
    def check_changes(self, calls, pairs, part=0, on=5):
        """changes of the part on that day, asked behind all the calls."""
        flat = [number for pair in pairs for number in pair]
        self.check(calls + [changes(part, on)], ask(*calls) + [[len(pairs), len(flat), *flat]])

    def test_without_entries_0_is_the_only_one(self):
        self.check_changes([TWO], [(0, 0)])
        self.check_changes([TWO], [(0, 1)], part=1)
        self.check_changes([TWO], [(0, 10000)], part=1, on=100000)
        self.check([changes(0, 0), changes(0, 100000)], [[1, 2, 0, 0], [1, 2, 0, 0]])

    def test_each_entry_that_changes_the_crack(self):
        self.check_changes([TWO, day(9), found(0, 1, 4), found(0, 2, 6), mended(0, 3)],
                           [(0, 0), (1, 4), (2, 6), (3, 0)])

    def test_an_entry_of_another_part(self):
        calls = [TWO, day(9), found(1, 1, 4), found(0, 2, 6), mended(1, 3), strike(0)]
        self.check_changes(calls, [(0, 0), (2, 6)])
        self.check_changes(calls, [(0, 1), (1, 5), (3, 1)], part=1)

    def test_an_entry_that_changes_nothing(self):
        self.check_changes([TWO, day(9), found(0, 1, 0), mended(0, 2)], [(0, 0)])
        self.check_changes([TWO, day(9), found(0, 3, 4), found(0, 3, 4), found(0, 2, 9), found(0, 5, 4)],
                           [(0, 0), (1, 4)])

    def test_another_source_with_the_same_crack_is_no_change(self):
        calls = [TWO, day(50), found(1, 10, 4), found(1, 20, 5)]
        self.check(calls + [known(1, 30, 1), known(1, 30, 2), changes(1, 30)],
                   [2, 50, 0, 1, [6, 2, 1, 494], [6, 2, 2, 494], [2, 4, 0, 3, 1, 6]])

    def test_entries_behind_the_day(self):
        calls = [TWO, day(9), found(0, 6, 4), found(0, 5, 8), mended(0, 9)]
        self.check_changes(calls, [(0, 0), (2, 8)])
        self.check_changes(calls, [(0, 0)], on=4)
        self.check_changes(calls, [(0, 0), (1, 4)], on=6)
        self.check_changes(calls, [(0, 0), (1, 4), (3, 0)], on=9)

    def test_struck_ones(self):
        self.check_changes([TWO, day(9), found(0, 1, 4), found(0, 2, 6), strike(1), strike(0)],
                           [(0, 0), (1, 4), (2, 6), (3, 4), (4, 0)])

    def test_one_struck_that_was_not_the_source(self):
        self.check_changes([TWO, day(9), found(0, 1, 4), found(0, 2, 6), strike(0)], [(0, 0), (1, 4), (2, 6)])

    def test_ones_put_right(self):
        self.check_changes([TWO, day(9), found(0, 1, 4), right(0, 9), right(0, 9), right(0, 2), found(0, 0, 7),
                            right(4, 8)],
                           [(0, 0), (1, 4), (2, 9), (4, 2)])

    def test_put_right_while_it_is_not_the_source(self):
        self.check_changes([TWO, day(9), found(0, 1, 4), found(0, 2, 6), right(0, 9), strike(1)],
                           [(0, 0), (1, 4), (2, 6), (4, 9)])

    def test_a_crack_that_changes_and_changes_back(self):
        self.check_changes([TWO, day(9), found(0, 1, 4), mended(0, 3), strike(1), right(0, 0), right(0, 4)],
                           [(0, 0), (1, 4), (2, 0), (3, 4), (4, 0), (5, 4)])

    def test_with_growth(self):
        calls = [TWO, day(50), found(1, 10, 4), found(1, 20, 4), found(1, 20, 5), mended(1, 50)]
        self.check_changes(calls, [(0, 4), (1, 7), (2, 6), (3, 7)], part=1, on=40)
        self.check_changes(calls, [(0, 10), (1, 13), (2, 12), (3, 13), (4, 5)], part=1, on=100)

    def test_days_up_to_100000_and_behind_today(self):
        self.check([TWO, mended(1, 0), day(10), mended(1, 10), changes(1, 100000), changes(1, 11)],
                   [2, 0, 10, 1, [2, 4, 0, 10000, 2, 9999], [2, 4, 0, 2, 2, 1]])

    def test_60_entries(self):
        self.check_changes([TWO] + [found(0, 0, 1 + entry) for entry in range(60)], [(n, n) for n in range(61)], on=0)
        self.check_changes([TWO] + [mended(0, 0)] * 59 + [found(0, 0, 3)], [(0, 0), (60, 3)], on=0)

    def test_each_crack_is_the_one_that_known_tells(self):
        calls = [TWO, day(30), found(1, 1, 4), mended(1, 12), right(0, 40), strike(1), found(1, 20, 9), strike(0)]
        told = ask(*calls, *[known(1, 25, n) for n in range(7)], changes(1, 25))
        cracks = [answer[0] for answer in told[len(calls):-1]]
        wanted = [number for n in range(7) if n == 0 or cracks[n] != cracks[n - 1] for number in (n, cracks[n])]
        self.assertEqual(told[-1], [len(wanted) // 2, len(wanted), *wanted])

    def test_a_new_file(self):
        self.check([TWO, found(0, 0, 4), changes(0, 0), TWO, changes(0, 0)],
                   [2, 0, [2, 4, 0, 0, 1, 4], 2, [1, 2, 0, 0]])


class Refusals(Case):
    BEFORE = [TWO, day(20), found(0, 5, 3), mended(1, 8), strike(0), post()]

    def test_no_such_part(self):
        self.check_refused(self.BEFORE, [changes(2, 0), changes(12, 0), changes(BIGGEST, 0)], -2)

    def test_day_above_100000(self):
        self.check_refused(self.BEFORE, [changes(0, 100001), changes(1, BIGGEST)], -1)

    def test_order(self):
        self.check_refused(self.BEFORE, [changes(2, 100001), changes(BIGGEST, BIGGEST)], -2)
        self.check_refused([day(1)], [changes(1, 100001), changes(1, 0)], -2)

    def test_asking_changes_nothing(self):
        self.assertEqual(ask(*self.BEFORE, changes(0, 9), changes(1, 9), state())[-1],
                         ask(*self.BEFORE, state())[-1])
