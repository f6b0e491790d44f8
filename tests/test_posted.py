"""Promise 4: posted."""

from helper import BIGGEST, Case, begins, day, found, mended, post, posted, right, strike

ONE = begins(100, 1, 0)


class Posted(Case):
    def test_nothing_posted(self):
        self.check([posted(0), ONE, posted(0), day(9), posted(0), posted(9)], [-6, 1, -6, 9, -6, -6])

    def test_before_any_begins(self):
        self.check([post(), posted(0), posted(1)], [1, [1, 2, 0, 0], -1])

    def test_only_on_a_later_day(self):
        self.check([ONE, day(5), post(), posted(0), posted(4), posted(5)], [1, 5, 100, -6, -6, [100, 2, 5, 0]])

    def test_on_later_days_what_was_posted_last(self):
        self.check([ONE, day(5), found(0, 5, 10), post(), day(10), found(0, 15, 30), mended(0, 3), post(), day(5),
                    posted(4), posted(5), posted(6), posted(14), posted(15), posted(16), posted(20)],
                   [1, 5, 0, 90, 15, 1, 2, 70, 20,
                    -6, [90, 2, 5, 1], [90, 2, 5, 1], [90, 2, 5, 1], [70, 2, 15, 3], [70, 2, 15, 3], [70, 2, 15, 3]])

    def test_of_several_on_one_day_the_last(self):
        self.check([ONE, day(5), found(0, 5, 40), post(), posted(5), mended(0, 5), post(), posted(5), right(0, 3),
                    found(0, 5, 20), post(), posted(5), day(1), posted(5), posted(6), posted(4)],
                   [1, 5, 0, 60, [60, 2, 5, 1], 1, 100, [100, 2, 5, 2], 2, 3, 80, [80, 2, 5, 4], 6, [80, 2, 5, 4],
                    [80, 2, 5, 4], -6])

    def test_it_stays_what_it_was_whatever_is_put_right_later(self):
        self.check([ONE, found(0, 0, 10), post(), day(2), right(0, 50), posted(0), posted(2), strike(0), posted(0),
                    posted(2), mended(0, 1), found(0, 0, 99), posted(0), posted(2), post(), posted(1), posted(2)],
                   [1, 0, 90, 2, 1, [90, 2, 0, 1], [90, 2, 0, 1], 2, [90, 2, 0, 1], [90, 2, 0, 1], 3, 4,
                    [90, 2, 0, 1], [90, 2, 0, 1], 100, [90, 2, 0, 1], [100, 2, 2, 5]])

    def test_it_stays_though_the_crack_grows(self):
        self.check([begins(100, 1, 100), post(), day(50), posted(0), posted(50), post(), posted(49), posted(50)],
                   [1, 100, 50, [100, 2, 0, 0], [100, 2, 0, 0], 50, [100, 2, 0, 0], [50, 2, 50, 0]])

    def test_a_new_file_has_nothing_posted(self):
        self.check([ONE, post(), day(3), post(), ONE, posted(0), day(3), posted(3), post(), posted(3)],
                   [1, 100, 3, 100, 1, -6, 3, -6, 100, [100, 2, 3, 0]])

    def test_0_may_be_posted(self):
        self.check([ONE, found(0, 0, 100), post(), posted(0)], [1, 0, 0, [0, 2, 0, 1]])

    def test_the_sixtieth_posting(self):
        self.check([ONE] + [post()] * 59 + [found(0, 0, 1), post(), mended(0, 0), post(), posted(0)],
                   [1] + [100] * 59 + [0, 99, 1, -5, [99, 2, 0, 1]])


class Refusals(Case):
    BEFORE = [ONE, day(5), found(0, 4, 3), post(), day(2)]

    def test_the_day_today_and_the_one_behind_it(self):
        self.check(self.BEFORE + [posted(7), posted(8)], [1, 5, 0, 97, 7, [97, 2, 5, 1], -1])

    def test_behind_today(self):
        self.check_refused(self.BEFORE, [posted(8), posted(100000), posted(100001), posted(BIGGEST)], -1)

    def test_nothing_that_day_or_before(self):
        self.check_refused(self.BEFORE, [posted(0), posted(4)], -6)

    def test_behind_today_comes_first(self):
        self.check_refused([ONE, day(5)], [posted(6), posted(BIGGEST)], -1)
        self.check_refused([ONE, day(5)], [posted(0), posted(5)], -6)
        self.check_refused([day(5)], [posted(6)], -1)
