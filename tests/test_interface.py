"""The interface: how calls and answers are told, and that nothing is changed, kept or printed."""

import contextlib
import io
import unittest

from bridgefile.bridge import answers
from helper import BIGGEST, begins, day, found, known, mended, post, right, strike

CALLS = [begins(100, 2, 10, 9, 0, 0), day(30), found(0, 4, 7), mended(1, 30), right(0, 8), known(0, 5, 3),
         begins(*[BIGGEST] * 60), begins(), strike(0), post(), known(2, 0, 0), post()]
TOLD = [1, 2, 1, 30, 1, 0, 1, 1, 1, 2, 4, 9, 2, 1, 82, 1, -1, 1, -1, 1, 3, 1, 9, 1, -2, 1, 9]


def flat(calls):
    return [number for call in calls for number in call]


class Interface(unittest.TestCase):
    def test_each_answer_stands_behind_its_length(self):
        self.assertEqual(answers(flat(CALLS)), TOLD)

    def test_one_call_alone(self):
        self.assertEqual(answers([6]), [1, 1])
        self.assertEqual(answers([0, 0]), [1, -1])
        self.assertEqual(answers([0, 3, 7, 0, 0]), [1, 1])
        self.assertEqual(answers([7, 0, 0, 0]), [4, 0, 2, 0, 1])

    def test_a_list_in_begins_that_looks_like_calls_is_none(self):
        self.assertEqual(answers([0, 3, 1, 1, 1, 1, 1]), [1, 1, 1, 1])
        self.assertEqual(answers([0, 4, 0, 3, 1, 1, 1, 1]), [1, -1, 1, 1])

    def test_the_list_handed_in_is_as_it_was(self):
        calls = flat(CALLS)
        answers(calls)
        self.assertEqual(calls, flat(CALLS))

    def test_the_list_is_not_changed_for_a_while_either(self):
        self.assertEqual(answers(Unchanging(flat(CALLS))), TOLD)

    def test_a_second_time_answers_like_the_first(self):
        calls = flat(CALLS)
        first = answers(calls)
        self.assertEqual(answers(calls), first)
        answers(flat([begins(5, 5, 5), day(9), found(0, 9, 9), post()]))
        self.assertEqual(answers(calls), first)
        self.assertEqual(answers(flat([day(1), found(0, 0, 0), post()])), [1, 1, 1, 0, 1, 1])

    def test_what_is_given_back_is_a_list_of_its_own(self):
        first = answers(flat(CALLS))
        first.clear()
        self.assertEqual(answers(flat(CALLS)), TOLD)

    def test_whole_numbers_in_a_list(self):
        told = answers(flat(CALLS))
        self.assertIs(type(told), list)
        self.assertEqual({type(number) for number in told}, {int})

    def test_nothing_is_printed(self):
        with contextlib.redirect_stdout(io.StringIO()) as out, contextlib.redirect_stderr(io.StringIO()) as err:
            answers(flat(CALLS))
        self.assertEqual((out.getvalue(), err.getvalue()), ("", ""))

    def test_80_calls(self):
        self.assertEqual(answers(begins(*[1] * 60) * 80), [1, -1] * 80)
        self.assertEqual(answers(day(1) * 80), flat([1, k] for k in range(1, 81)))


class Unchanging(list):
    """A list that can't be changed."""

    def no(self, *handed):
        raise AssertionError("the list handed in was changed")

    append = extend = insert = pop = remove = clear = reverse = sort = no
    __setitem__ = __delitem__ = __iadd__ = __imul__ = no
