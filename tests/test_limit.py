"""Promise 3: limit, by the first n entries."""

from helper import BIGGEST, Case, ask, begins, day, found, limit, mended, post, right, strike

THREE = begins(100, 2, 10, 90, 1, 0, 80, 1, 0)


class Limit(Case):
    def test_what_the_part_bears_that_bears_least(self):
        self.check([THREE, limit(0, 0), found(0, 0, 11), limit(0, 1), found(1, 0, 13), limit(0, 2), found(2, 0, 70),
                    limit(0, 3)],
                   [3, [80, 3, 2, 0, 0], 0, [78, 3, 0, 1, 11], 1, [77, 3, 1, 2, 13], 2, [10, 3, 2, 3, 70]])

    def test_the_first_of_several_that_bear_so_much(self):
        self.check([begins(9, 1, 0, 8, 1, 0, 8, 0, 0, 8, 2, 0), limit(0, 0), found(3, 0, 0), limit(0, 1),
                    found(0, 0, 1), limit(0, 2), found(3, 0, 1), limit(0, 3)],
                   [4, [8, 3, 1, 0, 0], 0, [8, 3, 1, 0, 0], 1, [8, 3, 0, 2, 1], 2, [6, 3, 3, 3, 1]])

    def test_the_first_of_several_that_bear_0(self):
        self.check([begins(5, 5, 0, 3, 3, 0), found(1, 0, 1), limit(0, 1), found(1, 0, 1000), limit(0, 2),
                    found(0, 0, 9), limit(0, 3)],
                   [2, 0, [0, 3, 1, 1, 1], 1, [0, 3, 1, 2, 1000], 2, [0, 3, 0, 3, 9]])

    def test_another_part_on_another_day(self):
        self.check([THREE, limit(0, 0), limit(100, 0), limit(101, 0), limit(110, 0), limit(111, 0), limit(499, 0)],
                   [3, [80, 3, 2, 0, 0], [80, 3, 0, 0, 10], [78, 3, 0, 0, 11], [78, 3, 0, 0, 11], [76, 3, 0, 0, 12],
                    [0, 3, 0, 0, 50]])

    def test_the_last_of_12_parts(self):
        self.check([begins(*[9, 1, 0] * 11, 8, 1, 0), found(11, 0, 2), limit(0, 0), limit(0, 1)],
                   [12, 0, [8, 3, 11, 0, 0], [6, 3, 11, 1, 2]])

    def test_before_any_begins(self):
        self.check([limit(0, 0), limit(100000, 0), found(0, 0, 1000), limit(7, 1), limit(0, 2), limit(100001, 0)],
                   [[1, 3, 0, 0, 0], [1, 3, 0, 0, 0], 0, [1, 3, 0, 1, 1000], -1, -1])


class ByTheFirstEntries(Case):
    CALLS = [THREE, day(20), found(1, 5, 20), mended(1, 7), right(0, 30), strike(1), strike(0), found(2, 9, 1)]

    def check_each_n(self, on, wanted):
        self.check(self.CALLS + [limit(on, n) for n in range(len(wanted) + 1)], ask(*self.CALLS) + wanted + [-1])

    def test_each_n(self):
        self.check_each_n(8, [[80, 3, 2, 0, 0], [70, 3, 1, 1, 20], [80, 3, 2, 0, 0], [80, 3, 2, 0, 0],
                              [60, 3, 1, 1, 30], [80, 3, 2, 0, 0], [80, 3, 2, 0, 0]])

    def test_entries_behind_the_day(self):
        self.check_each_n(4, [[80, 3, 2, 0, 0]] * 7)
        self.check_each_n(6, [[80, 3, 2, 0, 0], [70, 3, 1, 1, 20], [70, 3, 1, 1, 20], [60, 3, 1, 1, 30],
                              [60, 3, 1, 1, 30], [80, 3, 2, 0, 0], [80, 3, 2, 0, 0]])
        self.check_each_n(9, [[80, 3, 2, 0, 0], [70, 3, 1, 1, 20], [80, 3, 2, 0, 0], [80, 3, 2, 0, 0],
                              [60, 3, 1, 1, 30], [80, 3, 2, 0, 0], [79, 3, 2, 6, 1]])

    def test_what_was_known_stays_so_whatever_is_put_right_later(self):
        before = self.CALLS[:4]
        asked = [limit(on, n) for on in (0, 5, 7, 8, 100) for n in range(3)]
        self.assertEqual(ask(*before, *asked)[len(before):], ask(*self.CALLS, *asked)[len(self.CALLS):])

    def test_that_of_today_by_all_entries_is_what_post_posts(self):
        told = ask(*self.CALLS, limit(20, 6), post(), day(300), limit(320, 6), post())
        self.assertEqual(told[-2][0], told[-1][0])
        self.assertEqual(told[-5][0], told[-4][0])

    def test_n_up_to_60(self):
        calls = [THREE] + [found(0, 0, crack) for crack in range(1, 51)] + [mended(1, 0)] * 10
        self.check(calls + [limit(0, n) for n in (0, 10, 11, 50, 60, 61)],
                   ask(*calls) + [[80, 3, 2, 0, 0], [80, 3, 0, 10, 10], [78, 3, 0, 11, 11], [0, 3, 0, 50, 50],
                                  [0, 3, 0, 50, 50], -1])


class Refusals(Case):
    BEFORE = [THREE, day(20), found(0, 5, 3), mended(1, 8), strike(0), post()]

    def test_day_above_100000(self):
        self.check_refused(self.BEFORE, [limit(100001, 0), limit(100001, 3), limit(BIGGEST, 0)], -1)

    def test_fewer_than_n_entries(self):
        self.check_refused(self.BEFORE, [limit(0, 4), limit(100000, 61), limit(0, BIGGEST), limit(BIGGEST, BIGGEST)],
                           -1)

    def test_a_day_behind_today_is_let_up_to_100000(self):
        self.check([begins(1000, 0, 100), limit(1, 0), limit(100000, 0)],
                   [1, [1000, 3, 0, 0, 1], [1000, 3, 0, 0, 100000]])
