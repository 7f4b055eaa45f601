"""The interface: one list of whole numbers in, one out."""

import builtins
import contextlib
import io
import unittest
from unittest import mock

from pipenet.desk import answers

CALLS = [
    1, 4,
    2, 0, 1, 5, 2,
    2, 1, 3, 4, 1,
    2, 0, 4, 1, 1,
    4, 0, 256,
    3, 0, 3, 10,
    4, 0, 256,
    4, 1, 2,
    4, 1, 0,
    5, 0, 3,
    1, 257,
    4, 2, 0,
    3, 1, 1, 0,
    4, 0, 4,
    1, 2,
    4, 0, 4,
    3, 0, 1, 0,
    5, 1, 0,
]
GIVEN = [
    1, 0,
    1, 0,
    1, 1,
    1, -2,
    1, -1,
    3, 0, 4, 12,
    5, 2, 1, 1, 0, 0,
    3, 3, 1, 1,
    1, 3,
    1, 1,
    1, -2,
    1, -2,
    1, -2,
    5, 2, 1, 1, 0, 0,
    1, 0,
    1, -1,
    3, 0, 0, 0,
    1, 0,
]


class Form(unittest.TestCase):
    def test_call_by_call(self):
        self.assertEqual(answers(list(CALLS)), GIVEN)

    def test_one_call_alone(self):
        self.assertEqual(answers([1, 2]), [1, 0])

    def test_400_calls(self):
        calls = [1, 256] + [2, 0, 255, 2 ** 62, 10 ** 9] * 396 + [3, 0, 255, 2 ** 64 - 1, 5, 0, 255, 4, 0, 256]
        given = answers(calls)
        self.assertEqual(given[:4], [1, 0, 1, 0])
        self.assertEqual(given[-8:], [3, 0, 2 ** 64 - 1, (2 ** 64 - 1) * 10 ** 9, 1, 396, 1, -1])

    def test_a_list_of_plain_whole_numbers(self):
        given = answers(list(CALLS))
        self.assertIs(type(given), list)
        self.assertEqual({type(number) for number in given}, {int})


class NothingKeptNothingChanged(unittest.TestCase):
    def test_what_is_handed_in_stays(self):
        calls = list(CALLS)
        answers(calls)
        self.assertEqual(calls, CALLS)

    def test_what_is_handed_in_is_not_changed_for_a_while_either(self):
        class Watched(list):
            def refuse(self, *given, **named):
                raise AssertionError("what was handed in is changed")

            append = extend = insert = pop = remove = clear = sort = reverse = refuse
            __setitem__ = __delitem__ = __iadd__ = __imul__ = refuse

        self.assertEqual(answers(Watched(CALLS)), GIVEN)

    def test_a_second_time_gives_the_same(self):
        calls = list(CALLS)
        self.assertEqual([answers(calls) for turn in range(3)], [GIVEN] * 3)

    def test_a_net_of_another_time_is_not_seen(self):
        answers([1, 9, 2, 0, 1, 5, 5, 3, 0, 1, 9])
        self.assertEqual(answers([1, 2, 4, 0, 2, 3, 0, 1, 9, 2, 0, 1, 1, 1]), [1, 0, 1, -1, 3, 0, 0, 0, 1, 0])

    def test_what_was_given_back_is_not_used_again(self):
        given = answers(list(CALLS))
        given.clear()
        self.assertEqual(answers(list(CALLS)), GIVEN)

    def test_nothing_is_printed_read_or_imported(self):
        out = io.StringIO()
        refuse = mock.Mock(side_effect=AssertionError("reads or imports something"))
        with contextlib.redirect_stdout(out), contextlib.redirect_stderr(out):
            with mock.patch.object(builtins, "open", refuse), mock.patch.object(builtins, "input", refuse):
                with mock.patch.object(builtins, "__import__", refuse):
                    given = answers(list(CALLS))
        self.assertEqual(given, GIVEN)
        self.assertEqual(out.getvalue(), "")
