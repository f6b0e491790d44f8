"""Promise 6: due."""

from helper import BIGGEST, Case, ask, begins, day, due, found, mended, post, right, state, strike

THREE = begins(100, 2, 10, 90, 1, 0, 80, 1, 0)


class Due(Case):
    def test_without_an_entry_found_from_day_0_on(self):
        self.check([THREE, due(0), day(10), due(0), due(9), due(10), due(11)],
                   [3, [0, 0], 10, [3, 3, 0, 1, 2], [3, 3, 0, 1, 2], [0, 0], [0, 0]])

    def test_just_so_many_days_before_today_and_one_more(self):
        self.check([THREE, day(10), found(1, 4, 5), due(5), due(6), due(7), day(1), due(5), due(6), due(7)],
                   [3, 10, 0, [3, 3, 0, 1, 2], [2, 2, 0, 2], [2, 2, 0, 2], 11, [3, 3, 0, 1, 2], [3, 3, 0, 1, 2],
                    [2, 2, 0, 2]])

    def test_0_days(self):
        self.check([THREE, day(10), found(0, 10, 5), found(1, 9, 5), due(0), due(1), found(2, 10, 0),
                    found(1, 10, 0), due(0), day(1), due(0), due(1)],
                   [3, 10, 0, 1, [2, 2, 1, 2], [1, 1, 2], 2, 3, [0, 0], 11, [3, 3, 0, 1, 2], [0, 0]])

    def test_found_on_day_0_is_like_never_found(self):
        self.check([THREE, found(0, 0, 5), day(10), due(9), due(10)], [3, 0, 10, [3, 3, 0, 1, 2], [0, 0]])

    def test_mended_ones_only(self):
        self.check([THREE, day(10), mended(0, 10), mended(1, 3), due(9), due(10), due(0)],
                   [3, 10, 0, 1, [3, 3, 0, 1, 2], [0, 0], [3, 3, 0, 1, 2]])

    def test_mended_later_than_found(self):
        self.check([THREE, day(10), found(0, 4, 5), mended(0, 8), due(5), due(6)],
                   [3, 10, 0, 1, [3, 3, 0, 1, 2], [2, 2, 1, 2]])

    def test_a_struck_one(self):
        self.check([THREE, day(10), found(0, 3, 5), found(0, 8, 5), due(2), due(6), strike(1), due(6), due(7),
                    strike(0), due(7), due(9), due(10)],
                   [3, 10, 0, 1, [2, 2, 1, 2], [2, 2, 1, 2], 2, [3, 3, 0, 1, 2], [2, 2, 1, 2], 3, [3, 3, 0, 1, 2],
                    [3, 3, 0, 1, 2], [0, 0]])

    def test_one_of_two_of_one_day_struck(self):
        self.check([THREE, day(10), found(0, 8, 5), found(0, 8, 6), strike(1), due(2), strike(0), due(2)],
                   [3, 10, 0, 1, 2, [2, 2, 1, 2], 3, [3, 3, 0, 1, 2]])

    def test_put_right_leaves_the_day(self):
        self.check([THREE, day(10), found(0, 4, 5), right(0, 9), due(5), due(6)],
                   [3, 10, 0, 1, [3, 3, 0, 1, 2], [2, 2, 1, 2]])

    def test_the_last_day_whatever_was_made_last(self):
        self.check([THREE, day(10), found(0, 8, 5), found(0, 3, 5), due(2), due(1)],
                   [3, 10, 0, 1, [2, 2, 1, 2], [3, 3, 0, 1, 2]])

    def test_each_part_by_its_own_entries(self):
        self.check([THREE, day(10), found(2, 8, 5), found(1, 6, 5), found(0, 4, 5)] + [due(days) for days in range(8)],
                   [3, 10, 0, 1, 2, [3, 3, 0, 1, 2], [3, 3, 0, 1, 2], [2, 2, 0, 1], [2, 2, 0, 1], [1, 1, 0],
                    [1, 1, 0], [0, 0], [0, 0]])

    def test_12_parts_rising(self):
        self.check([begins(*[1, 0, 0] * 12), day(9)] + [found(part, 9 - part % 2, 0) for part in range(11, -1, -1)] +
                   [due(0), due(1), due(8)],
                   [12, 9] + list(range(12)) + [[6, 6, 1, 3, 5, 7, 9, 11], [0, 0], [0, 0]])

    def test_4294967295_days(self):
        self.check([THREE, due(BIGGEST)] + [day(10000)] * 10 + [due(BIGGEST), due(100000), due(99999), due(0)],
                   [3, [0, 0]] + [10000 * k for k in range(1, 11)] + [[0, 0], [0, 0]] + [[3, 3, 0, 1, 2]] * 2)

    def test_before_any_begins(self):
        self.check([due(0), day(1), due(0), due(1)], [[0, 0], 1, [1, 1, 0], [0, 0]])

    def test_a_new_file(self):
        self.check([THREE, day(10), found(1, 9, 5), due(3), THREE, due(0), day(4), due(3)],
                   [3, 10, 0, [2, 2, 0, 2], 3, [0, 0], 4, [3, 3, 0, 1, 2]])

    def test_asking_changes_nothing(self):
        before = [THREE, day(10), found(1, 9, 5), mended(0, 3), post()]
        self.assertEqual(ask(*before, due(0), due(5), due(BIGGEST), state())[-1], ask(*before, state())[-1])
