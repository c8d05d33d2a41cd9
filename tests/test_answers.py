"""The interface: how calls are handed in and answers given back."""

import contextlib
import io
import sys
import unittest

from fireseasons.season import UnknownCall, answers
from tests.helper import alike, begins, day, drop, line


class Untouched(list):
    """A list that fails as soon as anything tries to change it."""

    def refuse(self, *words, **named):
        raise AssertionError("the list handed in was changed")

    append = clear = extend = insert = pop = remove = reverse = sort = refuse
    __setitem__ = __delitem__ = __iadd__ = __imul__ = refuse


SEVERAL = line(alike(2, 4), day(where=[0, 3]), day((1, 1, 1, 10)), day(), drop(), drop(), drop(), begins(3, []))


class Answers(unittest.TestCase):
    def test_as_the_interface_writes_them(self):
        self.assertEqual(answers([0, 1, 2, 5, 7]), [1, 1])
        self.assertEqual(answers([0, 2, 4, 5, 7, 6, 8, 1, 1, 2, 3, 4, 50, 2, 0, 1, 2]), [1, 2, 1, 1, 1, 0])
        self.assertEqual(answers([1, 1, 1, 1, 1, 0, 0]), [1, 1])
        self.assertEqual(answers([2]), [1, -4])

    def test_the_wind_stands_in_its_order(self):
        self.assertEqual(answers([1, 9, 9, 9, 9, 10, 0]), [1, 1])
        self.assertEqual(answers([1, 9, 9, 9, 10, 9, 0]), [1, -1])

    def test_several_calls_in_one_list(self):
        self.assertEqual(answers(SEVERAL), [1, 4, 1, 1, 1, -1, 1, 2, 1, 1, 1, 0, 1, -4, 1, -1])

    def test_a_refused_call_is_read_to_its_end(self):
        self.assertEqual(answers(line(alike(5, 16, 2, 2), drop())), [1, -1, 1, -4])
        self.assertEqual(answers(line(day(where=[2] * 16), drop())), [1, -1, 1, -4])

    def test_forty_calls(self):
        calls = line(alike(4, 16), *([day(), drop()] * 19), day(where=[15]))
        self.assertEqual(answers(calls), [1, 16] + [1, 1, 1, 0] * 19 + [1, 1])

    def test_whole_numbers_in_a_list(self):
        given = answers(SEVERAL)
        self.assertIs(type(given), list)
        self.assertEqual({type(number) for number in given}, {int})

    def test_a_number_that_is_no_call(self):
        for number in (6, 7, 4294967295):
            with self.assertRaises(UnknownCall):
                answers([number])


class NothingElse(unittest.TestCase):
    def test_the_list_handed_in_is_the_same_afterwards(self):
        calls = Untouched(SEVERAL)
        given = answers(calls)
        self.assertEqual(list(calls), SEVERAL)
        self.assertIsNot(given, calls)

    def test_two_times_know_nothing_of_one_another(self):
        first = answers(SEVERAL)
        self.assertEqual(answers(line(alike(2, 4), day(), day())), [1, 4, 1, 1, 1, 2])
        self.assertEqual(answers(drop()), [1, -4])
        self.assertEqual(answers(day(where=[0])), [1, -1])
        self.assertEqual(answers(SEVERAL), first)

    def test_what_is_given_back_is_the_callers_own(self):
        given = answers(SEVERAL)
        kept = list(given)
        given.clear()
        self.assertEqual(answers(SEVERAL), kept)

    def test_nothing_is_printed_or_imported(self):
        printed = io.StringIO()
        modules = set(sys.modules)
        with contextlib.redirect_stdout(printed), contextlib.redirect_stderr(printed):
            answers(SEVERAL)
        self.assertEqual(printed.getvalue(), "")
        self.assertEqual(set(sys.modules), modules)
