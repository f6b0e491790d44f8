"""Promise 3: known, by the first n entries."""

from helper import BIGGEST, Case, ask, begins, day, found, known, mended, post, right, strike

ONE = begins(100, 2, 10)
TWO = begins(100, 2, 0, 500, 1, 10)


class ByTheFirstEntries(Case):
    def check_each_n(self, calls, wanted, part=0, on=5):
        """known of the part on that day, asked behind all the calls, for n from 0 on."""
        self.check(calls + [known(part, on, n) for n in range(len(wanted))] + [known(part, on, len(wanted))],
                   ask(*calls) + wanted + [-1])

    def test_entries_that_came_later_than_n_are_not_known(self):
        self.check_each_n([TWO, day(9), found(0, 1, 4), found(0, 2, 6), mended(0, 3)],
                          [[0, 2, 0, 100], [4, 2, 1, 92], [6, 2, 2, 88], [0, 2, 3, 100]])

    def test_what_is_struck_later_than_n_counts_still(self):
        self.check_each_n([TWO, day(9), found(0, 1, 4), mended(0, 2), strike(1), strike(0)],
                          [[0, 2, 0, 100], [4, 2, 1, 92], [0, 2, 2, 100], [4, 2, 1, 92], [0, 2, 0, 100]])

    def test_what_is_put_right_later_than_n_says_what_it_said(self):
        self.check_each_n([TWO, day(9), found(0, 1, 4), right(0, 9), mended(1, 1), right(0, 2)],
                          [[0, 2, 0, 100], [4, 2, 1, 92], [9, 2, 1, 82], [9, 2, 1, 82], [2, 2, 1, 96]])

    def test_put_right_and_struck(self):
        self.check_each_n([TWO, day(9), found(0, 1, 4), found(0, 3, 8), right(1, 9), strike(1), right(0, 5)],
                          [[0, 2, 0, 100], [4, 2, 1, 92], [8, 2, 2, 84], [9, 2, 2, 82], [4, 2, 1, 92],
                           [5, 2, 1, 90]])

    def test_put_right_does_not_make_it_the_one_made_last(self):
        self.check_each_n([TWO, day(9), found(0, 3, 4), found(0, 3, 8), right(0, 20)],
                          [[0, 2, 0, 100], [4, 2, 1, 92], [8, 2, 2, 84], [8, 2, 2, 84]])

    def test_of_several_of_one_day_the_one_made_last(self):
        self.check_each_n([TWO, day(9), found(0, 3, 4), mended(0, 3), found(0, 3, 8), strike(2), strike(1)],
                          [[0, 2, 0, 100], [4, 2, 1, 92], [0, 2, 2, 100], [8, 2, 3, 84], [0, 2, 2, 100],
                           [4, 2, 1, 92]])

    def test_the_latest_day_whatever_was_made_last(self):
        self.check_each_n([TWO, day(9), found(0, 4, 4), found(0, 3, 8), found(0, 5, 1), mended(0, 0)],
                          [[0, 2, 0, 100], [4, 2, 1, 92], [4, 2, 1, 92], [1, 2, 3, 98], [1, 2, 3, 98]])

    def test_entries_behind_the_day_that_is_asked(self):
        self.check_each_n([TWO, day(9), found(0, 6, 4), found(0, 5, 8), mended(0, 9), strike(1)],
                          [[0, 2, 0, 100], [0, 2, 0, 100], [8, 2, 2, 84], [8, 2, 2, 84], [0, 2, 0, 100]])

    def test_entries_of_other_parts(self):
        self.check_each_n([TWO, day(9), found(1, 5, 4), found(0, 2, 8), mended(1, 5)],
                          [[0, 2, 0, 100], [0, 2, 0, 100], [8, 2, 2, 84], [8, 2, 2, 84]])
        self.check_each_n([TWO, day(9), found(1, 5, 4), found(0, 2, 8), mended(1, 5)],
                          [[1, 2, 0, 499], [4, 2, 1, 496], [4, 2, 1, 496], [0, 2, 3, 500]], part=1)

    def test_n_up_to_60(self):
        calls = [TWO] + [found(0, 0, crack) for crack in range(60)]
        self.check(calls + [known(0, 0, n) for n in (0, 1, 30, 59, 60, 61)],
                   [2] + list(range(60)) + [[0, 2, 0, 100], [0, 2, 1, 100], [29, 2, 30, 42], [58, 2, 59, 0],
                                            [59, 2, 60, 0], -1])

    def test_what_was_known_stays_so_whatever_is_put_right_later(self):
        before = [TWO, day(9), found(0, 1, 4), mended(1, 2), found(1, 3, 7)]
        asked = [known(part, on, n) for part in (0, 1) for on in (0, 1, 2, 3, 9) for n in range(4)]
        later = [strike(0), right(2, 9), strike(1), mended(0, 0), strike(2), day(7), found(0, 2, 2), post()]
        self.assertEqual(ask(*before, *asked)[len(before):],
                         ask(*before, *later, *asked)[len(before + later):])


class Growth(Case):
    def test_rounded_up(self):
        self.check([ONE, day(1), found(0, 1, 20)] +
                   [known(0, 1 + days, 1) for days in (0, 1, 9, 10, 11, 20, 21, 100, 101)],
                   [1, 1, 0] + [[20 + more, 2, 1, 60 - 2 * more] for more in (0, 1, 1, 1, 2, 2, 3, 10, 11)])

    def test_without_a_source_from_day_0_on(self):
        self.check([ONE] + [known(0, on, 0) for on in (0, 1, 10, 11, 499, 500, 501)],
                   [1, [0, 2, 0, 100], [1, 2, 0, 98], [1, 2, 0, 98], [2, 2, 0, 96], [50, 2, 0, 0], [50, 2, 0, 0],
                    [51, 2, 0, 0]])

    def test_a_source_of_today_for_days_to_come(self):
        self.check([ONE, day(7), mended(0, 7), known(0, 8, 1), known(0, 100000, 1)],
                   [1, 7, 0, [1, 2, 1, 98], [10000, 2, 1, 0]])

    def test_both_ends_of_growth(self):
        self.check([begins(9, 1, 0, 9, 1, 100, 9, 1, 1), found(0, 0, 1), found(1, 0, 1), found(2, 0, 1),
                    known(0, 100000, 3), known(1, 3, 3), known(1, 100000, 3), known(2, 100, 3), known(2, 101, 3)],
                   [3, 0, 1, 2, [1, 2, 1, 8], [4, 2, 2, 5], [100001, 2, 2, 0], [2, 2, 3, 7], [3, 2, 3, 6]])


class Bears(Case):
    def test_0_at_the_least(self):
        self.check([TWO, found(0, 0, 49), known(0, 0, 1), found(0, 0, 50), known(0, 0, 2), found(0, 0, 51),
                    known(0, 0, 3), found(0, 0, 1000), known(0, 0, 4)],
                   [2, 0, [49, 2, 1, 2], 1, [50, 2, 2, 0], 2, [51, 2, 3, 0], 3, [1000, 2, 4, 0]])

    def test_both_ends_of_cost(self):
        self.check([begins(1000, 0, 100, 1000, 100, 0), found(1, 0, 9), known(0, 100000, 1), known(1, 0, 1),
                    found(1, 0, 10), known(1, 0, 2)],
                   [2, 0, [100000, 2, 0, 1000], [9, 2, 1, 100], 1, [10, 2, 2, 0]])


class Refusals(Case):
    BEFORE = [TWO, day(20), found(0, 5, 3), mended(1, 8), strike(0), post()]

    def test_no_such_part(self):
        self.check_refused(self.BEFORE, [known(2, 0, 0), known(12, 0, 0), known(BIGGEST, 0, 0)], -2)

    def test_day_above_100000(self):
        self.check_refused(self.BEFORE, [known(0, 100001, 0), known(1, BIGGEST, 3)], -1)

    def test_fewer_than_n_entries(self):
        self.check_refused(self.BEFORE, [known(0, 0, 4), known(1, 100000, 61), known(0, 0, BIGGEST)], -1)

    def test_order(self):
        self.check_refused(self.BEFORE, [known(2, 100001, 0), known(2, 0, 4), known(BIGGEST, BIGGEST, BIGGEST)], -2)

    def test_a_day_behind_today_is_let(self):
        self.check([TWO, known(1, 1, 0), known(1, 100000, 0)], [2, [1, 2, 0, 499], [10000, 2, 0, 0]])

    def test_asking_changes_nothing(self):
        probes = [known(0, 5, 3), known(1, 9, 3), day(1), found(0, 21, 1)]
        self.check(self.BEFORE + probes[:2] * 3 + probes,
                   [2, 20, 0, 1, 2, 100] + [[0, 2, 0, 100], [1, 2, 2, 499]] * 4 + [21, 3])
