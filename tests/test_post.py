"""Promise 2: post."""

from helper import Case, begins, day, found, known, mended, post, right, strike

THREE = begins(100, 2, 10, 90, 1, 0, 80, 1, 0)


class Post(Case):
    def test_the_limit_is_what_the_part_bears_that_bears_least(self):
        self.check([THREE, post(), found(0, 0, 11), post(), found(1, 0, 13), post(), found(2, 0, 70), post()],
                   [3, 80, 0, 78, 1, 77, 2, 10])

    def test_by_the_crack_of_today(self):
        self.check([THREE, found(0, 0, 10), post(), day(1), post(), day(9), post(), day(1), post(), mended(0, 11),
                    post(), day(200), post()],
                   [3, 0, 80, 1, 78, 10, 78, 11, 76, 1, 80, 211, 60])

    def test_growth_without_a_source(self):
        self.check([THREE, day(110), post(), day(1), post()], [3, 110, 78, 111, 76])

    def test_by_all_the_entries_that_there_are_then(self):
        self.check([THREE, found(2, 0, 50), post(), right(0, 60), post(), strike(0), post(), mended(1, 0), post()],
                   [3, 0, 30, 1, 20, 2, 80, 3, 80])

    def test_an_entry_of_an_earlier_day_made_later_is_not_the_source(self):
        self.check([THREE, day(9), found(2, 8, 50), found(2, 7, 60), post()], [3, 9, 0, 1, 30])

    def test_a_part_that_bears_0(self):
        self.check([THREE, found(2, 0, 79), post(), found(2, 0, 80), post(), found(2, 0, 1000), post()],
                   [3, 0, 1, 1, 0, 2, 0])

    def test_the_last_of_12_parts(self):
        self.check([begins(*[9, 1, 0] * 11, 8, 1, 0), post()], [12, 8])

    def test_several_on_a_day_and_days_without(self):
        self.check([THREE, post(), post(), day(10000), post()], [3, 80, 80, 10000, 0])

    def test_60_at_most(self):
        self.check([THREE] + [post()] * 62, [3] + [80] * 60 + [-5] * 2)

    def test_behind_the_refusal_all_is_as_it_was(self):
        self.check_refused([THREE, day(5), found(0, 4, 3)] + [post()] * 60, [post()], -5)

    def test_refused_entries_leave_what_is_posted(self):
        self.check([THREE, found(2, 0, 1001), found(3, 0, 9), mended(0, 1), strike(0), post(), known(2, 0, 0)],
                   [3, -1, -2, -1, -2, 80, [0, 2, 0, 80]])

    def test_postings_are_no_entries(self):
        self.check([THREE, post(), found(0, 0, 1), post(), known(0, 0, 2), mended(0, 0)], [3, 80, 0, 80, -1, 1])
