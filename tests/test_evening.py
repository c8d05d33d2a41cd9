"""The call evening: what is lost, on fire, and could burn still."""

import unittest

from tests.helper import alike, ask, begins, day, evening, last

ROW = begins(4, [(1, 1), (1, 10), (1, 100), (1, 1000)])
WALL = begins(3, [(1, 1), (0, 7), (1, 100)])
HUGE = 4294967295


class EachEvening(unittest.TestCase):
    def test_a_season_of_three_days(self):
        calls = (ROW, day(minutes=2, where=[0]), day(minutes=2), day(minutes=2))
        breaks = [0, 0, 0]
        self.assertEqual(last(*calls, evening(0, breaks)), [0, [], [0, 1, 2, 3]])
        self.assertEqual(last(*calls, evening(1, breaks)), [11, [0, 1], [2, 3]])
        self.assertEqual(last(*calls, evening(2, breaks)), [111, [2], [3]])
        self.assertEqual(last(*calls, evening(3, breaks)), [1111, [3], []])

    def test_with_breaks(self):
        calls = (ROW, day(minutes=0, where=[0]), day(minutes=100), day())
        breaks = [4, 2, 0]
        self.assertEqual(last(*calls, evening(0, breaks)), [0, [], [0, 1, 2, 3]])
        self.assertEqual(last(*calls, evening(1, breaks)), [1001, [0], [1, 2]])
        self.assertEqual(last(*calls, evening(2, breaks)), [1011, [], [2]])
        self.assertEqual(last(*calls, evening(3, breaks)), [1011, [], [2]])

    def test_what_does_not_burn_could_not(self):
        calls = (WALL, day(minutes=0, where=[0, 1]))
        self.assertEqual(last(*calls, evening(0, [0])), [0, [], [0, 2]])
        self.assertEqual(last(*calls, evening(1, [0])), [1, [0], [2]])
        self.assertEqual(last(*calls, evening(1, [3])), [101, [0], []])

    def test_places_on_fire_from_the_day_before_are_in_neither_list(self):
        strike = day(minutes=0, where=[1])
        calls = (ROW, strike, strike, strike)
        self.assertEqual(last(*calls, evening(1, [0, 0, 0])), [10, [1], [0, 2, 3]])
        self.assertEqual(last(*calls, evening(2, [0, 0, 0])), [10, [], [0, 2, 3]])
        self.assertEqual(last(*calls, evening(3, [0, 0, 0])), [10, [], [0, 2, 3]])

    def test_lists_rise(self):
        calls = (alike(3, 9), day(minutes=4, where=[8]))
        self.assertEqual(last(*calls, evening(1, [0])), [6, [2, 4, 5, 6, 7, 8], [0, 1, 3]])

    def test_a_worth_of_none(self):
        self.assertEqual(last(alike(2, 4, 1, 0), day(minutes=2, where=[0]), evening(1, [4])), [0, [0, 1, 2], []])


class AheadOfAll(unittest.TestCase):
    def test_no_days(self):
        self.assertEqual(last(ROW, evening(0)), [0, [], [0, 1, 2, 3]])

    def test_no_places(self):
        self.assertEqual(last(evening(0)), [0, [], []])
        self.assertEqual(last(day(), evening(1, [0])), [0, [], []])

    def test_as_the_interface_writes_it(self):
        self.assertEqual(ask(ROW, evening(0))[-1], [0, 0, 4, 0, 1, 2, 3])
        self.assertEqual(ask(ROW, day(minutes=2, where=[0]), evening(1, [0]))[-1], [11, 2, 0, 1, 2, 2, 3])


class AboveTheDays(unittest.TestCase):
    def test_with_good_breaks(self):
        for days in range(4):
            for k in (days + 1, days + 2, 16, HUGE):
                with self.subTest(days=days, k=k):
                    self.assertEqual(ask(ROW, *[day()] * days, evening(k, [0] * days))[-1], [-1])

    def test_with_breaks_that_are_not_as_told(self):
        for breaks in ([], [0], [0, 0, 0], [0, 5], [HUGE, 0]):
            with self.subTest(breaks=breaks):
                self.assertEqual(ask(ROW, day(), day(), evening(3, breaks))[-1], [-1])

    def test_with_breaks_that_may_not_be_cut(self):
        self.assertEqual(ask(ROW, day(), day(), evening(3, [1, 1]))[-1], [-1])
        self.assertEqual(ask(WALL, day(), evening(2, [2]))[-1], [-1])
        self.assertEqual(ask(WALL, day(), evening(1, [2]))[-1], [-6])

    def test_a_dropped_day_is_above(self):
        self.assertEqual(ask(ROW, day(), day(), [2], evening(2, [0]), evening(1, [0]))[-2:], [[-1], [0, 0, 4, 0, 1, 2, 3]])
