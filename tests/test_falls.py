"""Promise 5: falls."""

from bridgefile.reading import falls as falls_of
from bridgefile.record import Bridge, Part
from helper import BIGGEST, Case, ask, begins, day, falls, found, limit, mended, post, right, strike

FAST = begins(100, 1, 100)
TO_100000 = [day(10000)] * 10


class Falls(Case):
    def test_behind_how_many_days(self):
        self.check([FAST, falls(100), falls(99), falls(51), falls(2), falls(1)], [1, 1, 2, 50, 99, 100])

    def test_today_already(self):
        self.check([FAST, falls(101), falls(1000), day(30), falls(100), falls(71), falls(70), falls(69)],
                   [1, 0, 0, 30, 0, 0, 1, 2])

    def test_below_and_not_just_so_much(self):
        self.check([begins(100, 10, 100), falls(100), falls(91), falls(90), falls(89), falls(81), falls(80)],
                   [1, 1, 1, 2, 2, 2, 3])

    def test_growth_is_rounded_up(self):
        self.check([begins(100, 1, 10), falls(100), falls(99), falls(98), day(5), falls(100), falls(99), falls(98),
                    day(5), falls(99), day(1), falls(99), falls(98)],
                   [1, 1, 11, 21, 5, 0, 6, 16, 10, 1, 11, 0, 10])

    def test_growth_that_does_not_divide_a_hundred(self):
        self.check([begins(100, 1, 33), falls(100), falls(99), falls(98), falls(97), falls(96)],
                   [1, 1, 4, 7, 10, 13])

    def test_the_part_that_is_first_below(self):
        self.check([begins(100, 1, 0, 200, 1, 100, 150, 2, 10), falls(100), falls(101), falls(99), falls(120),
                    falls(160), falls(200)],
                   [3, 101, 0, 102, 0, 0, 0])
        self.check([begins(300, 1, 10, 200, 1, 50, 150, 1, 10), falls(150), falls(149), falls(120), falls(100)],
                   [3, 1, 11, 161, 201])

    def test_before_any_begins(self):
        self.check([falls(1), falls(2), falls(1000), falls(0), falls(1001), found(0, 0, 1000), falls(1)],
                   [-6, 0, 0, -1, -1, 0, -6])

    def test_by_the_source_of_today(self):
        self.check([FAST, day(40), falls(60), found(0, 40, 10), falls(60), mended(0, 30), falls(60), strike(0),
                    falls(60), strike(1), falls(60), found(0, 20, 5), right(4, 15), falls(60)],
                   [1, 40, 1, 0, 31, 1, 31, 2, 31, 3, 1, 4, 5, 6])

    def test_what_is_posted_does_not_matter(self):
        self.check([FAST, day(40), found(0, 40, 90), post(), strike(0), falls(60)], [1, 40, 0, 10, 1, 1])

    def test_a_mended_part_falls_later(self):
        self.check([begins(50, 1, 10), day(100), falls(40), mended(0, 100), falls(40), day(101), falls(40)],
                   [1, 100, 1, 0, 101, 201, 0])


class NeverOrLate(Case):
    def test_no_growth(self):
        self.check([begins(100, 5, 0), falls(100), falls(1), falls(101), found(0, 0, 1), falls(95), falls(96)],
                   [1, -6, -6, 0, 0, -6, 0])

    def test_no_cost(self):
        self.check([begins(100, 0, 100), falls(100), falls(1), falls(101), found(0, 0, 1000), falls(100)],
                   [1, -6, -6, 0, 0, -6])

    def test_one_of_several_falls(self):
        self.check([begins(100, 5, 0, 100, 0, 100, 900, 1, 1), falls(101), falls(100), falls(1)],
                   [3, 0, 100 * 800 + 1, 100 * 899 + 1])

    def test_as_late_as_a_part_that_is_let_can(self):
        self.check([begins(1000, 1, 1), falls(1), falls(2), falls(1000)] + TO_100000 +
                   [falls(1), found(0, 99999, 0), falls(1), mended(0, 100000), falls(1), falls(1000)],
                   [1, 99901, 99801, 1] + [10000 * k for k in range(1, 11)] + [0, 0, 99900, 1, 99901, 1])

    def test_the_last_of_the_131072_days_and_the_one_behind_it(self):
        # Parts within their ranges have fallen by then or never do: one that bears more is put in from within.
        for bears, today, wanted in ((1312, 31, 131070), (1312, 30, 131071), (1312, 29, -6), (1311, 29, 130972),
                                     (1313, 30, -6)):
            bridge = Bridge()
            bridge.begin([Part(bears, 1, 1)])
            bridge.today = today
            with self.subTest(bears=bears, today=today):
                self.assertEqual(falls_of(bridge, 1), [wanted])


class EachDay(Case):
    def check_by_each_day(self, before, today, made, much):
        """falls tells the first of the days from today on whose limit is below that much."""
        room = 79 - len(before)
        told = ask(*before, *[limit(today + days, made) for days in range(room)], falls(much))
        below = [answer[0] < much for answer in told[len(before):-1]]
        self.assertIn(True, below)
        self.assertEqual(told[-1], [below.index(True)])

    def test_each_day_is_looked_at(self):
        before = [begins(100, 3, 33, 90, 2, 60, 95, 7, 9), day(17), found(0, 3, 2), found(1, 17, 0), mended(2, 11)]
        for much in range(53, 103):
            self.check_by_each_day(before, 17, 3, much)

    def test_12_parts_and_60_entries(self):
        before = [begins(*[1000, 10, 100] * 12), day(50)]
        for part in range(12):
            number = 5 * part
            before += [found(part, 10, 50), found(part, 30, 7), right(number + 1, part), found(part, 40, 99),
                       strike(number + 3)]
        asked = [falls(much) for much in (1000, 691, 690, 681, 680, 679, 100, 1)]
        self.check(before + asked, [12, 50] + list(range(60)) + [0, 0, 1, 1, 2, 2, 60, 69])
        for much in (691, 690, 680, 600):
            self.check_by_each_day(before, 50, 60, much)

    def test_12_parts_and_60_entries_that_never_fall(self):
        before = [begins(*[1000, 10, 0, 1000, 0, 100] * 6)] + [found(entry % 12, 0, 9) for entry in range(60)]
        self.check(before + [falls(910), falls(911), falls(1)], [12] + list(range(60)) + [-6, 0, -6])


class Refusals(Case):
    BEFORE = [FAST, day(5), found(0, 4, 3), post()]

    def test_not_1_to_1000(self):
        self.check_refused(self.BEFORE, [falls(0), falls(1001), falls(131072), falls(BIGGEST)], -1)

    def test_1_and_1000_are_let(self):
        self.check(self.BEFORE + [falls(1), falls(1000)], [1, 5, 0, 96, 96, 0])

    def test_on_none_of_the_days(self):
        self.check_refused([begins(100, 5, 0), day(5), found(0, 4, 3), post()], [falls(1), falls(85)], -6)

    def test_out_of_range_comes_first(self):
        self.check_refused([begins(1000, 0, 0), day(5)], [falls(0), falls(1001), falls(BIGGEST)], -1)
