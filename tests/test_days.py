"""Promise 2: day and drop."""

import unittest

from fireseasons.season import Season
from tests.helper import CALM, alike, day, drop, numbers

FOREST = alike(2, 4)
HUGE = 4294967295


class OrdinaryDays(unittest.TestCase):
    def test_answers_how_many_days(self):
        self.assertEqual(
            numbers(FOREST, day((1, 2, 3, 4), 30, [0, 3]), day((9, 8, 7, 6), 0, [1]), day()),
            [4, 1, 2, 3],
        )

    def test_what_a_day_keeps(self):
        season = Season()
        season.begins(2, [1, 1] * 4)
        season.day([1, 2, 3, 4], 30, [0, 3])
        kept = season.days[0]
        self.assertEqual((kept.wind, kept.minutes, kept.where), ([1, 2, 3, 4], 30, [0, 3]))

    def test_lightning_may_strike_where_nothing_burns(self):
        self.assertEqual(numbers(alike(2, 4, slowness=0), day(where=[0, 1, 2, 3])), [4, 1])


class Edges(unittest.TestCase):
    def test_each_wind_number(self):
        for direction in range(4):
            for force, good in ((0, False), (1, True), (9, True), (10, False), (HUGE, False)):
                wind = [5, 5, 5, 5]
                wind[direction] = force
                with self.subTest(wind=wind):
                    self.assertEqual(numbers(FOREST, day(wind)), [4, 1 if good else -1])

    def test_minutes(self):
        for minutes, good in ((0, True), (1, True), (100000, True), (100001, False), (HUGE, False)):
            with self.subTest(minutes=minutes):
                self.assertEqual(numbers(FOREST, day(minutes=minutes)), [4, 1 if good else -1])

    def test_no_lightning(self):
        self.assertEqual(numbers(FOREST, day(where=[])), [4, 1])

    def test_lightning_everywhere(self):
        self.assertEqual(numbers(alike(4, 16), day(where=list(range(16)))), [16, 1])

    def test_a_place_that_there_is_not(self):
        for where, good in (([0], True), ([3], True), ([4], False), ([0, 4], False), ([HUGE], False)):
            with self.subTest(where=where):
                self.assertEqual(numbers(FOREST, day(where=where)), [4, 1 if good else -1])

    def test_places_that_do_not_rise(self):
        for where in ([1, 0], [2, 2], [0, 0], [0, 2, 1], [0, 1, 1], [1, 0, 3], [3, 2, 1, 0], [0] * 16):
            with self.subTest(where=where):
                self.assertEqual(numbers(FOREST, day(where=where)), [4, -1])

    def test_ahead_of_any_begins(self):
        self.assertEqual(numbers(day(), day(), day(), day()), [1, 2, 3, -5])
        self.assertEqual(numbers(day(where=[0]), day((0, 1, 1, 1)), day()), [-1, -1, 1])


class TooManyDays(unittest.TestCase):
    def test_a_fourth_day(self):
        self.assertEqual(numbers(FOREST, day(), day(), day(), day(), day()), [4, 1, 2, 3, -5, -5])

    def test_a_fourth_day_that_is_not_as_told_either(self):
        wrong_days = (
            day((0, 1, 1, 1)),
            day((1, 1, 1, 10)),
            day(minutes=100001),
            day(where=[4]),
            day(where=[1, 1]),
        )
        for wrong in wrong_days:
            with self.subTest(wrong=wrong):
                self.assertEqual(numbers(FOREST, day(), day(), day(), wrong, drop()), [4, 1, 2, 3, -1, 2])


class RefusedDays(unittest.TestCase):
    def test_leave_days_and_places(self):
        for wrong in (day((0, 1, 1, 1)), day(minutes=100001), day(where=[4]), day(where=[2, 1])):
            with self.subTest(wrong=wrong):
                self.assertEqual(
                    numbers(FOREST, day(), wrong, day(where=[3]), wrong, drop(), drop(), drop()),
                    [4, 1, -1, 2, -1, 1, 0, -4],
                )

    def test_a_refused_fourth_leaves_three(self):
        self.assertEqual(numbers(FOREST, day(), day(), day(), day(), drop(), day(), day()), [4, 1, 2, 3, -5, 2, 3, -5])

    def test_leave_what_answers_do_not_show_yet(self):
        season = Season()
        season.begins(2, [3, 10, 4, 20])
        for minutes in (1, 2, 3):
            season.day(list(CALM), minutes, [])
        kept = list(season.days)
        self.assertEqual(season.day(list(CALM), 4, []), -5)
        self.assertEqual(season.day([0, 1, 1, 1], 4, []), -1)
        self.assertEqual(season.days, kept)
        self.assertEqual([one.minutes for one in season.days], [1, 2, 3])
        self.assertEqual((season.wide, season.slowness, season.worth), (2, [3, 4], [10, 20]))


class Drop(unittest.TestCase):
    def test_down_to_none(self):
        self.assertEqual(
            numbers(FOREST, day(), day(), day(), drop(), drop(), drop(), drop(), drop()),
            [4, 1, 2, 3, 2, 1, 0, -4, -4],
        )

    def test_with_none(self):
        self.assertEqual(numbers(drop()), [-4])
        self.assertEqual(numbers(FOREST, drop(), day()), [4, -4, 1])

    def test_a_day_behind_a_drop(self):
        self.assertEqual(numbers(FOREST, day(), drop(), day(), day(), drop(), day()), [4, 1, 0, 1, 2, 1, 2])

    def test_leaves_the_places(self):
        self.assertEqual(numbers(FOREST, day(), drop(), day(where=[4]), day(where=[3])), [4, 1, 0, -1, 1])
        self.assertEqual(numbers(FOREST, drop(), day(where=[4]), day(where=[3])), [4, -4, -1, 1])

    def test_takes_the_last_one(self):
        season = Season()
        for minutes in (1, 2, 3):
            season.day(list(CALM), minutes, [])
        season.drop()
        self.assertEqual([one.minutes for one in season.days], [1, 2])
