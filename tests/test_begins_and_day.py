"""Promise 1: begins and day."""

from helper import BIGGEST, Case, begins, day, found, known, mended, post, strike

THREE = begins(100, 2, 10, 1, 0, 0, 1000, 100, 100)


class BeforeBegins(Case):
    def test_one_part_that_bears_1_without_loss_or_growth(self):
        self.check([known(0, 0, 0), known(0, 100000, 0), known(1, 0, 0), known(0, 0, 1), post()],
                   [[0, 2, 0, 1], [0, 2, 0, 1], -2, -1, 1])

    def test_today_is_0_and_there_are_no_entries(self):
        self.check([found(0, 1, 0), strike(0), mended(0, 0), day(1)], [-1, -2, 0, 1])

    def test_a_crack_costs_nothing(self):
        self.check([found(0, 0, 1000), known(0, 50, 1), post()], [0, [1000, 2, 1, 1], 1])


class Begins(Case):
    def test_how_many_parts(self):
        for many in range(1, 13):
            self.check([begins(*[5, 1, 1] * many), known(many - 1, 0, 0), known(many, 0, 0)],
                       [many, [0, 2, 0, 5], -2])

    def test_each_part_has_its_own_three_numbers(self):
        self.check([THREE, known(0, 250, 0), known(1, 250, 0), known(2, 3, 0)],
                   [3, [25, 2, 0, 50], [0, 2, 0, 1], [3, 2, 0, 700]])

    def test_both_ends_of_each_range(self):
        for bears in (1, 1000):
            for cost in (0, 100):
                for growth in (0, 100):
                    self.check([begins(bears, cost, growth), known(0, 1, 0)],
                               [1, [growth // 100, 2, 0, max(0, bears - cost * growth // 100)]])

    def test_the_number_beyond_each_range(self):
        wrong = []
        for place, numbers in enumerate(((0, 1001, BIGGEST), (101, 1000, BIGGEST), (101, 1000, BIGGEST))):
            for number in numbers:
                for part in (0, 1, 11):
                    parts = [5, 1, 1] * 12
                    parts[3 * part + place] = number
                    wrong.append(begins(*parts))
        self.check_refused([THREE, day(9), found(1, 3, 4), post()], wrong, -1)

    def test_not_1_to_12_parts_of_three_numbers(self):
        wrong = [begins(*[1] * many) for many in range(61) if many % 3 != 0 or not 3 <= many <= 36]
        self.assertEqual(len(wrong), 61 - 12)
        self.check_refused([THREE, day(9), found(1, 3, 4), post()], wrong, -1)
        self.check_refused([day(1)], wrong, -1)

    def test_sixty_of_the_biggest(self):
        self.check_refused([THREE], [begins(*[BIGGEST] * 60), begins(*[BIGGEST] * 36)], -1)

    def test_a_new_file(self):
        self.check(
            [THREE, day(70), found(0, 60, 9), mended(2, 70), strike(0), post(),
             begins(9, 1, 100), known(1, 0, 0), known(0, 0, 1), known(0, 2, 0), strike(0), found(0, 1, 0),
             found(0, 0, 3), known(0, 0, 1), day(1), post()],
            [3, 70, 0, 1, 2, 1,
             1, -2, -1, [2, 2, 0, 7], -2, -1,
             0, [3, 2, 1, 6], 1, 5])

    def test_a_new_file_has_room_for_60_entries_and_postings_again(self):
        self.check([THREE] + [found(0, 0, 1)] * 60 + [found(0, 0, 1), THREE, found(0, 0, 1)],
                   [3] + list(range(60)) + [-5, 3, 0])
        self.check([THREE] + [post()] * 61 + [THREE, post()], [3] + [1] * 60 + [-5, 3, 1])


class Day(Case):
    def test_today(self):
        self.check([day(1), day(10000), day(37)], [1, 10001, 10038])

    def test_entries_may_be_of_today_then(self):
        self.check([day(10), found(0, 11, 0), found(0, 10, 0), day(1), found(0, 11, 0)], [10, -1, 0, 11, 1])

    def test_not_1_to_10000(self):
        wrong = [day(0), day(10001), day(100000), day(100001), day(BIGGEST)]
        self.check_refused([THREE, day(5), found(0, 4, 2)], wrong, -1)

    def test_today_up_to_100000(self):
        tens = [day(10000)] * 10
        self.check(tens + [day(1)], [10000 * k for k in range(1, 11)] + [-5])
        self.check(tens[1:] + [day(9999), day(2), day(1), day(1)],
                   [10000 * k for k in range(1, 10)] + [99999, -5, 100000, -5])

    def test_above_100000_all_is_as_it_was(self):
        before = [THREE] + [day(10000)] * 9 + [day(9000), found(0, 99000, 2)]
        self.check_refused(before, [day(1001), day(10000)], -5)

    def test_out_of_range_comes_first(self):
        self.check_refused([THREE] + [day(10000)] * 10, [day(0), day(10001), day(BIGGEST)], -1)
