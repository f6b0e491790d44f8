"""Promise 2: found, mended, strike and right."""

from helper import BIGGEST, Case, begins, day, found, known, mended, post, right, strike

TWO = begins(100, 2, 0, 500, 1, 10)
BEFORE = [TWO, day(20), found(0, 5, 3), mended(1, 8), right(0, 4), found(1, 9, 6), strike(3), post()]
FULL = [TWO, day(20), found(0, 5, 3), mended(0, 8), right(0, 4), strike(1)] + [found(1, 2, 1)] * 56


class Found(Case):
    def test_the_entrys_number(self):
        self.check([TWO, found(0, 0, 0), found(1, 0, 1000), day(3), found(0, 3, 1), found(0, 1, 1)],
                   [2, 0, 1, 3, 2, 3])

    def test_so_it_was_on_that_day(self):
        self.check([TWO, day(9), found(1, 4, 30), known(1, 4, 1), known(1, 3, 1), known(0, 4, 1)],
                   [2, 9, 0, [30, 2, 1, 470], [1, 2, 0, 499], [0, 2, 0, 100]])

    def test_no_such_part(self):
        self.check_refused(BEFORE, [found(2, 0, 0), found(12, 0, 0), found(BIGGEST, 0, 0)], -2)

    def test_day_behind_today(self):
        self.check_refused(BEFORE, [found(0, 21, 0), found(1, 100000, 1), found(0, BIGGEST, 0)], -1)

    def test_crack_above_1000(self):
        self.check_refused(BEFORE, [found(0, 0, 1001), found(1, 20, BIGGEST)], -1)

    def test_order(self):
        self.check_refused(BEFORE, [found(2, 21, 1001), found(2, 21, 0), found(2, 0, 1001)], -2)
        self.check_refused(FULL, [found(2, 21, 1001), found(BIGGEST, 0, 0)], -2)
        self.check_refused(FULL, [found(0, 21, 0), found(0, 0, 1001)], -1)
        self.check_refused(FULL, [found(0, 0, 0), found(1, 20, 1000)], -5)


class Mended(Case):
    def test_the_entrys_number(self):
        self.check([TWO, mended(0, 0), mended(1, 0), day(3), mended(1, 3)], [2, 0, 1, 3, 2])

    def test_from_that_day_on_the_crack_is_0_and_grows(self):
        self.check([TWO, day(50), found(1, 0, 40), mended(1, 20), known(1, 19, 2), known(1, 20, 2), known(1, 31, 2)],
                   [2, 50, 0, 1, [42, 2, 1, 458], [0, 2, 2, 500], [2, 2, 2, 498]])

    def test_no_such_part(self):
        self.check_refused(BEFORE, [mended(2, 0), mended(BIGGEST, 0)], -2)

    def test_day_behind_today(self):
        self.check_refused(BEFORE, [mended(0, 21), mended(1, BIGGEST)], -1)

    def test_order(self):
        self.check_refused(BEFORE, [mended(2, 21), mended(BIGGEST, BIGGEST)], -2)
        self.check_refused(FULL, [mended(2, 21), mended(2, 0)], -2)
        self.check_refused(FULL, [mended(0, 21)], -1)
        self.check_refused(FULL, [mended(0, 20), mended(1, 0)], -5)


class Strike(Case):
    def test_the_new_entrys_number_and_what_it_strikes_counts_no_more(self):
        self.check([TWO, found(0, 0, 5), mended(0, 0), strike(1), known(0, 0, 3), strike(0), known(0, 0, 4)],
                   [2, 0, 1, 2, [5, 2, 1, 90], 3, [0, 2, 0, 100]])

    def test_one_that_was_put_right(self):
        self.check([TWO, found(0, 0, 5), right(0, 7), strike(0), known(0, 0, 2), known(0, 0, 3)],
                   [2, 0, 1, 2, [7, 2, 1, 86], [0, 2, 0, 100]])

    def test_no_such_entry(self):
        self.check_refused([TWO], [strike(0), strike(1), strike(BIGGEST)], -2)
        self.check_refused(BEFORE, [strike(5), strike(60), strike(BIGGEST)], -2)

    def test_struck_already_or_of_another_sort(self):
        self.check_refused(BEFORE, [strike(3), strike(2), strike(4)], -4)
        self.check_refused([TWO, mended(0, 0), strike(0)], [strike(0), strike(1)], -4)

    def test_order(self):
        self.check_refused(FULL, [strike(60), strike(BIGGEST)], -2)
        self.check_refused(FULL, [strike(1), strike(2), strike(3)], -4)
        self.check_refused(FULL, [strike(0), strike(4), strike(59)], -5)


class Right(Case):
    def test_the_new_entrys_number_and_what_it_says_then(self):
        self.check([TWO, found(0, 0, 5), right(0, 1000), known(0, 0, 2), right(0, 0), known(0, 0, 3), right(0, 9),
                    known(0, 0, 4), known(0, 0, 1)],
                   [2, 0, 1, [1000, 2, 1, 0], 2, [0, 2, 1, 100], 3, [9, 2, 1, 82], [5, 2, 1, 90]])

    def test_no_such_entry(self):
        self.check_refused([TWO], [right(0, 0), right(BIGGEST, 0)], -2)
        self.check_refused(BEFORE, [right(5, 0), right(BIGGEST, BIGGEST)], -2)

    def test_struck_or_of_another_sort(self):
        self.check_refused(BEFORE, [right(1, 0), right(2, 0), right(3, 0), right(4, 0)], -4)

    def test_crack_above_1000(self):
        self.check_refused(BEFORE, [right(0, 1001), right(0, BIGGEST)], -1)

    def test_order(self):
        self.check_refused(BEFORE, [right(5, 1001)], -2)
        self.check_refused(BEFORE, [right(1, 1001), right(2, 1001), right(3, BIGGEST), right(4, 1001)], -4)
        self.check_refused(FULL, [right(60, 0), right(BIGGEST, BIGGEST)], -2)
        self.check_refused(FULL, [right(1, 1001), right(1, 0), right(2, 0), right(3, 5)], -4)
        self.check_refused(FULL, [right(0, 1001), right(59, BIGGEST)], -1)
        self.check_refused(FULL, [right(0, 1000), right(59, 0)], -5)


class SixtyEntries(Case):
    def test_the_sixtieth_is_the_last(self):
        for sixtieth, beyond in ((found(0, 0, 1), found(0, 0, 2)), (mended(0, 0), mended(0, 0)),
                                 (strike(0), strike(1)), (right(0, 2), right(0, 3))):
            with self.subTest(beyond=beyond):
                self.check([found(0, 0, 1)] * 59 + [sixtieth, beyond], list(range(60)) + [-5])

    def test_all_sorts_together_are_counted(self):
        self.check(FULL + [found(0, 0, 0), mended(0, 0), strike(0), right(0, 0), post()],
                   [2, 20] + list(range(60)) + [-5] * 4 + [92])
