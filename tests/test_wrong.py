"""Promise 4: wrong."""

from helper import BIGGEST, Case, begins, day, found, mended, post, right, strike, wrong

PLAIN = begins(100, 1, 0)
GROWS = begins(100, 1, 10)


class Wrong(Case):
    def test_no_day_is_a_0_alone(self):
        self.check([PLAIN, post(), day(20), wrong(0, 20), wrong(3, 3)], [1, 100, 20, 0, 0])

    def test_nothing_posted(self):
        self.check([GROWS, wrong(0, 0), day(90), wrong(0, 90), wrong(90, 90)], [1, 0, 90, 0, 0])

    def test_before_any_begins(self):
        self.check([wrong(0, 0), post(), wrong(0, 0), day(3), wrong(0, 3), wrong(0, 4)], [0, 1, 0, 3, 0, -1])

    def test_one_day(self):
        self.check([PLAIN, day(9), post(), found(0, 4, 7), mended(0, 5), wrong(0, 9), found(0, 9, 2), wrong(0, 9)],
                   [1, 9, 100, 0, 1, 0, 2, [1, 2, 9, 2]])

    def test_from_and_to_the_same_day(self):
        self.check([GROWS, post(), day(30)] + [wrong(on, on) for on in (0, 1, 10, 11, 29, 30)],
                   [1, 100, 30, 0, [1, 2, 1, 1], [1, 2, 10, 1], [1, 2, 11, 2], [1, 2, 29, 3], [1, 2, 30, 3]])

    def test_both_days_too(self):
        self.check([PLAIN, post(), day(9), found(0, 3, 5), mended(0, 6), wrong(3, 5), wrong(2, 6), wrong(4, 9),
                    wrong(0, 3), wrong(5, 5), wrong(0, 2), wrong(6, 9)],
                   [1, 100, 9, 0, 1, [3, 2, 3, 5], [3, 2, 3, 5], [2, 2, 4, 5], [1, 2, 3, 5], [1, 2, 5, 5], 0, 0])

    def test_days_before_the_first_posting_are_not_counted(self):
        self.check([PLAIN, day(9), post(), found(0, 2, 5), day(4), wrong(0, 13), wrong(0, 8), wrong(8, 9)],
                   [1, 9, 100, 0, 13, [5, 2, 9, 5], 0, [1, 2, 9, 5]])

    def test_just_so_much_is_not_too_much(self):
        self.check([PLAIN, found(0, 0, 5), post(), right(0, 5), wrong(0, 0), right(0, 4), wrong(0, 0), right(0, 6),
                    wrong(0, 0)],
                   [1, 0, 95, 1, 0, 2, 0, 3, [1, 2, 0, 1]])

    def test_too_little_is_not_wrong(self):
        self.check([PLAIN, found(0, 0, 60), post(), strike(0), day(5), wrong(0, 5)], [1, 0, 40, 1, 5, 0])

    def test_the_most_may_be_on_any_day(self):
        self.check([PLAIN, post(), day(9), found(0, 2, 5), found(0, 4, 30), found(0, 6, 9), wrong(0, 9), wrong(0, 3),
                    wrong(5, 8), wrong(6, 9)],
                   [1, 100, 9, 0, 1, 2, [8, 2, 2, 30], [2, 2, 2, 5], [4, 2, 5, 30], [4, 2, 6, 9]])

    def test_days_that_are_right_lie_between(self):
        self.check([PLAIN, post(), day(9), found(0, 1, 5), mended(0, 3), found(0, 8, 2), wrong(0, 9), wrong(2, 9),
                    wrong(3, 9)],
                   [1, 100, 9, 0, 1, 2, [4, 2, 1, 5], [3, 2, 2, 5], [2, 2, 8, 2]])

    def test_each_day_by_what_was_posted_then(self):
        self.check([GROWS, post(), day(20), post(), day(20), post(), day(5), wrong(0, 45), wrong(0, 20),
                    wrong(20, 20), wrong(20, 40), wrong(40, 40), wrong(40, 45)],
                   [1, 100, 20, 98, 40, 96, 45, [19 + 19 + 5, 2, 1, 2], [19, 2, 1, 2], 0, [19, 2, 21, 2], 0,
                    [5, 2, 41, 1]])

    def test_of_several_postings_on_one_day_the_last(self):
        self.check([PLAIN, day(3), post(), found(0, 0, 10), post(), wrong(0, 3), mended(0, 3), post(), found(0, 3, 1),
                    wrong(3, 3)],
                   [1, 3, 100, 0, 90, 0, 1, 100, 2, [1, 2, 3, 1]])

    def test_the_weakest_part_of_each_day(self):
        self.check([begins(100, 1, 0, 90, 2, 0), post(), day(9), found(0, 1, 20), found(1, 4, 9), mended(0, 6),
                    wrong(0, 9), wrong(0, 3), wrong(6, 9)],
                   [2, 90, 9, 0, 1, 2, [9, 2, 1, 18], [3, 2, 1, 10], [4, 2, 6, 18]])

    def test_a_limit_of_0(self):
        self.check([PLAIN, post(), found(0, 0, 1000), wrong(0, 0)], [1, 100, 0, [1, 2, 0, 100]])


class ByAllEntriesThereAreNow(Case):
    def test_entries_struck_after_a_posting(self):
        self.check([PLAIN, found(0, 0, 10), mended(0, 0), post(), day(4), wrong(0, 4), strike(1), wrong(0, 4),
                    strike(0), wrong(0, 4)],
                   [1, 0, 1, 100, 4, 0, 2, [5, 2, 0, 10], 3, 0])

    def test_entries_put_right_after_a_posting(self):
        self.check([PLAIN, found(0, 0, 10), post(), day(4), wrong(0, 4), right(0, 25), wrong(0, 4), right(0, 9),
                    wrong(0, 4), right(0, 11), wrong(2, 4)],
                   [1, 0, 90, 4, 0, 1, [5, 2, 0, 15], 2, 0, 3, [3, 2, 2, 1]])

    def test_put_right_and_then_struck(self):
        self.check([PLAIN, found(0, 0, 10), post(), found(0, 0, 2), right(1, 30), wrong(0, 0), strike(1),
                    wrong(0, 0)],
                   [1, 0, 90, 1, 2, [1, 2, 0, 20], 3, 0])

    def test_entries_made_later_about_days_before(self):
        self.check([PLAIN, post(), day(100), wrong(0, 100), found(0, 40, 3), wrong(0, 100), wrong(0, 39),
                    mended(0, 60), wrong(0, 100)],
                   [1, 100, 100, 0, 0, [61, 2, 40, 3], 0, 1, [20, 2, 40, 3]])

    def test_a_new_file(self):
        self.check([GROWS, post(), day(50), wrong(0, 50), GROWS, wrong(0, 0), wrong(0, 1), day(50), wrong(0, 50)],
                   [1, 100, 50, [50, 2, 1, 5], 1, 0, -1, 50, 0])


class Bounds(Case):
    BEFORE = [GROWS, post(), day(400), day(400)]

    def test_500_days_behind_from_and_501(self):
        self.check(self.BEFORE + [wrong(0, 500), wrong(0, 501), wrong(300, 800), wrong(299, 800), wrong(301, 800)],
                   [1, 100, 400, 800, [500, 2, 1, 50], -1, [501, 2, 300, 80], -1, [500, 2, 301, 80]])

    def test_to_today_and_the_day_behind_it(self):
        self.check(self.BEFORE + [wrong(799, 800), wrong(799, 801), wrong(800, 800), wrong(801, 801)],
                   [1, 100, 400, 800, [2, 2, 799, 80], -1, [1, 2, 800, 80], -1])

    def test_more_than_500_days_behind(self):
        self.check_refused(self.BEFORE, [wrong(0, 501), wrong(0, 800), wrong(299, 800)], -1)

    def test_to_before_from(self):
        self.check_refused(self.BEFORE, [wrong(1, 0), wrong(800, 799), wrong(800, 0), wrong(801, 800),
                                         wrong(BIGGEST, 0), wrong(BIGGEST, 800)], -1)

    def test_to_behind_today(self):
        self.check_refused(self.BEFORE, [wrong(301, 801), wrong(801, 801), wrong(0, BIGGEST), wrong(800, BIGGEST),
                                         wrong(BIGGEST, BIGGEST), wrong(100000, 100001)], -1)
        self.check_refused([post()], [wrong(0, 1), wrong(1, 1), wrong(1, 0)], -1)

    def test_up_to_day_100000(self):
        self.check([GROWS, post()] + [day(10000)] * 10 + [wrong(99500, 100000), wrong(99499, 100000)],
                   [1, 100] + [10000 * k for k in range(1, 11)] + [[501, 2, 99500, 100], -1])
