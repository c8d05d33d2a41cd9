"""The interface: how calls are handed in and answers given back."""

import contextlib
import io
import sys
import unittest

from fireseasons.season import UnknownCall, answers
from tests.helper import alike, ask, begins, best, day, drop, evening, follow, line


class Untouched(list):
    """A list that fails as soon as anything tries to change it."""

    def refuse(self, *words, **named):
        raise AssertionError("the list handed in was changed")

    append = clear = extend = insert = pop = remove = reverse = sort = refuse
    __setitem__ = __delitem__ = __iadd__ = __imul__ = refuse


SEVERAL = line(alike(2, 4), day(where=[0, 3]), day((1, 1, 1, 10)), day(), drop(), drop(), drop(), begins(3, []))

# Forty calls, each of the six among them, some refused; each with what it answers.
MIXED = (
    (best(), [0, 1, 1, 0]),
    (follow(), [0]),
    (evening(0), [0, 0, 0]),
    (evening(1), [-1]),
    (follow([0]), [-1]),
    (drop(), [-4]),
    (day(where=[0]), [-1]),
    (day(), [1]),
    (follow([0]), [0, 0]),
    (follow([1]), [-1]),
    (best(), [0, 1, 1, 1, 0]),
    (begins(2, [(1, 3), (1, 5), (0, 7), (2, 9)]), [4]),
    (follow([0]), [-1]),
    (follow(), [0]),
    (evening(0), [0, 0, 3, 0, 1, 3]),
    (day(minutes=2, where=[0]), [1]),
    (follow([0]), [8, 2, 0, 1]),
    (follow([1]), [3, 0]),
    (follow([2]), [8, 1, 0]),
    (follow([3]), [-6]),
    (follow([4]), [17, 2, 0, 1]),
    (follow([5]), [-1]),
    (best(), [3, 1, 1, 1, 1]),
    (day((9, 9, 1, 9), 3), [2]),
    (follow([0, 0]), [17, 2, 0, 1, 1, 3]),
    (follow([0, 2]), [-6]),
    (follow([0]), [-1]),
    (evening(1, [0, 4]), [8, 2, 0, 1, 1, 3]),
    (evening(2, [0, 4]), [17, 0, 0]),
    (evening(2, [0, 0]), [17, 1, 3, 0]),
    (evening(3, [0, 2]), [-1]),
    (best(), [3, 1, 1, 2, 1, 0]),
    (day(where=[3, 2]), [-1]),
    (day(minutes=0, where=[1, 2, 3]), [3]),
    (day(), [-5]),
    (follow([1, 2, 0]), [17, 0, 0, 1, 3]),
    (best(), [17, 1, 13, 3, 0, 0, 0]),
    (begins(3, [(1, 1)]), [-1]),
    (drop(), [2]),
    (best(), [3, 1, 1, 2, 1, 0]),
)

ALL_MIXED = line(*[call for call, answer in MIXED])


class Answers(unittest.TestCase):
    def test_as_the_interface_writes_them(self):
        self.assertEqual(answers([0, 1, 2, 5, 7]), [1, 1])
        self.assertEqual(answers([0, 2, 4, 5, 7, 6, 8, 1, 1, 2, 3, 4, 50, 2, 0, 1, 2]), [1, 2, 1, 1, 1, 0])
        self.assertEqual(answers([1, 1, 1, 1, 1, 0, 0]), [1, 1])
        self.assertEqual(answers([2]), [1, -4])

    def test_the_wind_stands_in_its_order(self):
        self.assertEqual(answers([1, 9, 9, 9, 9, 10, 0]), [1, 1])
        self.assertEqual(answers([1, 9, 9, 9, 10, 9, 0]), [1, -1])

    def test_several_calls_in_one_list(self):
        self.assertEqual(answers(SEVERAL), [1, 4, 1, 1, 1, -1, 1, 2, 1, 1, 1, 0, 1, -4, 1, -1])

    def test_a_refused_call_is_read_to_its_end(self):
        self.assertEqual(answers(line(alike(5, 16, 2, 2), drop())), [1, -1, 1, -4])
        self.assertEqual(answers(line(day(where=[2] * 16), drop())), [1, -1, 1, -4])

    def test_forty_calls(self):
        calls = line(alike(4, 16), *([day(), drop()] * 19), day(where=[15]))
        self.assertEqual(answers(calls), [1, 16] + [1, 1, 1, 0] * 19 + [1, 1])

    def test_forty_calls_mixed(self):
        self.assertEqual(len(MIXED), 40)
        given = ask(*[call for call, answer in MIXED])
        for (call, answer), one in zip(MIXED, given):
            with self.subTest(call=call):
                self.assertEqual(one, answer)

    def test_any_call_first(self):
        self.assertEqual(answers([3, 0]), [1, 0])
        self.assertEqual(answers([3, 1, 0]), [1, -1])
        self.assertEqual(answers([4]), [4, 0, 1, 1, 0])
        self.assertEqual(answers([5, 0, 0]), [3, 0, 0, 0])
        self.assertEqual(answers([5, 1, 0]), [1, -1])
        self.assertEqual(answers([5, 0, 2, 0, 0]), [1, -1])

    def test_follow_best_and_evening_as_the_interface_writes_them(self):
        season = [0, 2, 4, 1, 10, 1, 100, 1, 1, 1, 1, 1, 2, 1, 0]
        self.assertEqual(answers(season + [3, 1, 0]), [1, 2, 1, 1, 4, 110, 2, 0, 1])
        self.assertEqual(answers(season + [4]), [1, 2, 1, 1, 5, 10, 1, 1, 1, 1])
        self.assertEqual(answers(season + [5, 1, 1, 2]), [1, 2, 1, 1, 4, 110, 1, 0, 0])
        self.assertEqual(answers(season + [5, 1, 1, 3, 2]), [1, 2, 1, 1, 1, -1, 1, 0])

    def test_a_refused_row_of_breaks_is_read_to_its_end(self):
        self.assertEqual(answers(line(follow([2] * 16), drop())), [1, -1, 1, -4])
        self.assertEqual(answers(line(evening(2, [2] * 16), drop())), [1, -1, 1, -4])
        self.assertEqual(answers(line(alike(1, 1, 0), day(), follow([1]), drop())), [1, 1, 1, 1, 1, -6, 1, 0])

    def test_whole_numbers_in_a_list(self):
        given = answers(SEVERAL + ALL_MIXED)
        self.assertIs(type(given), list)
        self.assertEqual({type(number) for number in given}, {int})

    def test_a_number_that_is_no_call(self):
        for number in (6, 7, 4294967295):
            with self.assertRaises(UnknownCall):
                answers([number])


class NothingElse(unittest.TestCase):
    def test_the_list_handed_in_is_the_same_afterwards(self):
        for asked in (SEVERAL, ALL_MIXED):
            calls = Untouched(asked)
            given = answers(calls)
            self.assertEqual(list(calls), asked)
            self.assertIsNot(given, calls)

    def test_two_times_the_same_list(self):
        self.assertEqual(answers(ALL_MIXED), answers(ALL_MIXED))
        self.assertEqual(answers(ALL_MIXED), answers(list(ALL_MIXED)))

    def test_asking_changes_nothing(self):
        season = [alike(2, 4, 1, 5), day(minutes=2, where=[0]), day(minutes=2)]
        asked = [follow([0, 4]), best(), evening(1, [0, 0]), follow([0, 0]), evening(2, [4, 3])]
        given = ask(*season, *asked, *reversed(asked))[3:]
        self.assertEqual(given, ask(*season, *asked)[3:] + ask(*season, *reversed(asked))[3:])
        self.assertEqual(given[:5], given[:4:-1])

    def test_two_times_know_nothing_of_one_another(self):
        first = answers(SEVERAL)
        self.assertEqual(answers(line(alike(2, 4), day(), day())), [1, 4, 1, 1, 1, 2])
        self.assertEqual(answers(drop()), [1, -4])
        self.assertEqual(answers(day(where=[0])), [1, -1])
        self.assertEqual(answers(SEVERAL), first)

    def test_what_is_given_back_is_the_callers_own(self):
        given = answers(SEVERAL)
        kept = list(given)
        given.clear()
        self.assertEqual(answers(SEVERAL), kept)

    def test_nothing_is_printed_or_imported(self):
        printed = io.StringIO()
        modules = set(sys.modules)
        with contextlib.redirect_stdout(printed), contextlib.redirect_stderr(printed):
            answers(SEVERAL + ALL_MIXED)
        self.assertEqual(printed.getvalue(), "")
        self.assertEqual(set(sys.modules), modules)
