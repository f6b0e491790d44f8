"""The interface: how calls and answers are told, and that nothing is changed, kept or printed."""

import builtins
import contextlib
import io
import unittest
from unittest import mock

from bridgefile.bridge import answers
from helper import (BIGGEST, ask, begins, changes, day, due, falls, found, known, limit, mended, post, posted, right,
                    state, strike, wrong)

# All 15 calls, those that answer a list without and with something in it, and refused ones between.
CALLS = [state(), begins(100, 2, 10, 90, 0, 0), due(BIGGEST), wrong(0, 0), post(), day(30), found(0, 4, 7),
         mended(1, 30), right(0, 8), known(0, 5, 3), limit(5, 3), begins(*[BIGGEST] * 60), begins(), wrong(0, 30),
         falls(70), falls(0), strike(1), post(), posted(29), posted(30), posted(31), due(25), changes(0, 4),
         changes(2, 0), limit(0, 5), known(2, 0, 0), state()]
TOLD = [
    7, 0, 3, 1, 0, 0, 0, 0, 1, 2, 2, 0, 0, 1, 0, 1, 90, 1, 30, 1, 0,
    1, 1, 1, 2, 4, 9, 2, 1, 82, 5, 82, 3, 0, 1, 9, 1, -1, 1, -1, 4, 27, 2, 4, 12,
    1, 45, 1, -1, 1, 3, 1, 78, 4, 90, 2, 0, 0, 4, 78, 2, 30, 4, 1, -1, 4, 2, 2, 0, 1, 8, 3, 6, 0, 1, 1, 7, 3, 8,
    1, -2, 1, -1, 1, -2, 32, 30, 6, 100, 2, 10, 90, 0, 0, 16, 0, 0, 4, 7, 1, 1, 30, 0, 3, 0, 0, 8, 2, 1, 0, 0,
    6, 0, 0, 90, 30, 4, 78]


def flat(calls):
    return [number for call in calls for number in call]


class Interface(unittest.TestCase):
    def test_all_15_calls_are_among_the_calls(self):
        self.assertEqual({call[0] for call in CALLS}, set(range(15)))

    def test_each_answer_stands_behind_its_length(self):
        self.assertEqual(answers(flat(CALLS)), TOLD)

    def test_one_call_alone(self):
        self.assertEqual(answers([6]), [1, 1])
        self.assertEqual(answers([0, 0]), [1, -1])
        self.assertEqual(answers([0, 3, 7, 0, 0]), [1, 1])
        self.assertEqual(answers([7, 0, 0, 0]), [4, 0, 2, 0, 1])
        self.assertEqual(answers([8, 0, 0]), [5, 1, 3, 0, 0, 0])
        self.assertEqual(answers([9, 0]), [1, -6])
        self.assertEqual(answers([10, 0, 0]), [1, 0])
        self.assertEqual(answers([11, 2]), [1, 0])
        self.assertEqual(answers([12, 0]), [2, 0, 0])
        self.assertEqual(answers([13, 0, 0]), [4, 1, 2, 0, 0])
        self.assertEqual(answers([14]), [7, 0, 3, 1, 0, 0, 0, 0])

    def test_a_list_in_begins_that_looks_like_calls_is_none(self):
        self.assertEqual(answers([0, 3, 1, 1, 1, 1, 1]), [1, 1, 1, 1])
        self.assertEqual(answers([0, 4, 0, 3, 1, 1, 1, 1]), [1, -1, 1, 1])

    def test_the_list_handed_in_is_as_it_was(self):
        calls = flat(CALLS)
        answers(calls)
        self.assertEqual(calls, flat(CALLS))

    def test_the_list_is_not_changed_for_a_while_either(self):
        self.assertEqual(answers(Unchanging(flat(CALLS))), TOLD)

    def test_a_second_time_answers_like_the_first(self):
        calls = flat(CALLS)
        first = answers(calls)
        self.assertEqual(answers(calls), first)
        answers(flat([begins(5, 5, 5), day(9), found(0, 9, 9), post()]))
        self.assertEqual(answers(calls), first)
        self.assertEqual(answers(flat([day(1), found(0, 0, 0), post()])), [1, 1, 1, 0, 1, 1])

    def test_what_is_given_back_is_a_list_of_its_own(self):
        first = answers(flat(CALLS))
        first.clear()
        self.assertEqual(answers(flat(CALLS)), TOLD)

    def test_whole_numbers_in_a_list(self):
        told = answers(flat(CALLS))
        self.assertIs(type(told), list)
        self.assertEqual({type(number) for number in told}, {int})

    def test_nothing_is_printed(self):
        with contextlib.redirect_stdout(io.StringIO()) as out, contextlib.redirect_stderr(io.StringIO()) as err:
            answers(flat(CALLS))
        self.assertEqual((out.getvalue(), err.getvalue()), ("", ""))

    def test_nothing_is_read_or_imported(self):
        calls = flat(CALLS)
        not_let = mock.Mock(side_effect=AssertionError("something was read or imported"))
        with mock.patch.multiple(builtins, open=not_let, input=not_let, __import__=not_let):
            told = answers(calls)
        self.assertEqual(told, TOLD)

    def test_nothing_but_a_refusal_is_below_0(self):
        for answer in ask(*CALLS):
            self.assertTrue(len(answer) == 1 or min(answer) >= 0, answer)

    def test_the_biggest_numbers_everywhere(self):
        calls = [begins(*[BIGGEST] * 60), day(BIGGEST), found(0, BIGGEST, BIGGEST), mended(0, BIGGEST),
                 strike(BIGGEST), right(BIGGEST, BIGGEST), known(0, BIGGEST, BIGGEST), limit(BIGGEST, BIGGEST),
                 posted(BIGGEST), wrong(BIGGEST, BIGGEST), falls(BIGGEST), due(BIGGEST), changes(0, BIGGEST), state()]
        self.assertEqual(ask(*calls), [[-1], [-1], [-1], [-1], [-2], [-2], [-1], [-1], [-1], [-1], [-1], [0, 0], [-1],
                                       [0, 3, 1, 0, 0, 0, 0]])

    def test_80_calls(self):
        self.assertEqual(answers(begins(*[1] * 60) * 80), [1, -1] * 80)
        self.assertEqual(answers(day(1) * 80), flat([1, k] for k in range(1, 81)))
        self.assertEqual(answers(state() * 80), [7, 0, 3, 1, 0, 0, 0, 0] * 80)


class Unchanging(list):
    """A list that can't be changed."""

    def no(self, *handed):
        raise AssertionError("the list handed in was changed")

    append = extend = insert = pop = remove = clear = reverse = sort = no
    __setitem__ = __delitem__ = __iadd__ = __imul__ = no
