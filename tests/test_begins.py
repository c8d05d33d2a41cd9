"""Promise 1: begins."""

import unittest

from fireseasons.season import Season
from tests.helper import alike, begins, day, drop, numbers


class OrdinaryForests(unittest.TestCase):
    def test_answers_how_many_places(self):
        self.assertEqual(numbers(begins(2, [(1, 5), (3, 0), (0, 7), (60, 1000)])), [4])
        self.assertEqual(numbers(begins(3, [(4, 9), (2, 100), (8, 8)])), [3])

    def test_every_width_and_count(self):
        full = {
            1: (1, 2, 3, 4),
            2: (2, 4, 6, 8),
            3: (3, 6, 9, 12),
            4: (4, 8, 12, 16),
        }
        for wide in range(0, 18):
            for count in range(0, 17):
                expected = count if count in full.get(wide, ()) else -1
                with self.subTest(wide=wide, count=count):
                    self.assertEqual(numbers(alike(wide, count)), [expected])

    def test_places_that_do_not_burn_are_places(self):
        self.assertEqual(numbers(alike(2, 4, slowness=0, worth=0)), [4])


class Edges(unittest.TestCase):
    def test_smallest_and_largest(self):
        self.assertEqual(numbers(alike(1, 1)), [1])
        self.assertEqual(numbers(alike(4, 16)), [16])
        self.assertEqual(numbers(alike(1, 4)), [4])
        self.assertEqual(numbers(alike(4, 4)), [4])

    def test_slowness_at_each_place(self):
        for slowness, good in ((0, True), (1, True), (60, True), (61, False), (4294967295, False)):
            for at in range(4):
                places = [(5, 5)] * 4
                places[at] = (slowness, 5)
                with self.subTest(slowness=slowness, at=at):
                    self.assertEqual(numbers(begins(2, places)), [4 if good else -1])

    def test_worth_at_each_place(self):
        for worth, good in ((0, True), (61, True), (1000, True), (1001, False), (4294967295, False)):
            for at in range(4):
                places = [(5, 5)] * 4
                places[at] = (5, worth)
                with self.subTest(worth=worth, at=at):
                    self.assertEqual(numbers(begins(2, places)), [4 if good else -1])


class Refusals(unittest.TestCase):
    def test_none_or_too_many_in_a_row(self):
        self.assertEqual(numbers(alike(0, 4)), [-1])
        self.assertEqual(numbers(alike(5, 5)), [-1])
        self.assertEqual(numbers(alike(16, 16)), [-1])
        self.assertEqual(numbers(alike(4294967295, 4)), [-1])

    def test_no_places(self):
        for wide in (0, 1, 4, 5):
            self.assertEqual(numbers(begins(wide, [])), [-1])

    def test_rows_that_are_not_full(self):
        self.assertEqual(numbers(alike(2, 3)), [-1])
        self.assertEqual(numbers(alike(4, 15)), [-1])
        self.assertEqual(numbers(alike(3, 2)), [-1])

    def test_more_than_four_rows(self):
        self.assertEqual(numbers(alike(1, 5)), [-1])
        self.assertEqual(numbers(alike(2, 10)), [-1])
        self.assertEqual(numbers(alike(3, 15)), [-1])

    def test_half_a_place(self):
        self.assertEqual(numbers([0, 1, 1, 5]), [-1])
        self.assertEqual(numbers([0, 1, 3, 5, 5, 5]), [-1])


class WhatIsLeft(unittest.TestCase):
    def test_a_good_one_leaves_no_days(self):
        self.assertEqual(numbers(alike(2, 4), day(), day(), alike(2, 4), drop()), [4, 1, 2, 4, -4])
        self.assertEqual(numbers(day(), alike(1, 1), day()), [1, 1, 1])

    def test_a_good_one_takes_the_place_of_the_last(self):
        self.assertEqual(
            numbers(alike(4, 16), day(where=[15]), alike(1, 2), day(where=[2]), day(where=[1])),
            [16, 1, 2, -1, 1],
        )
        self.assertEqual(numbers(alike(1, 2), alike(4, 16), day(where=[15])), [2, 16, 1])

    def test_a_refused_one_leaves_places_and_days(self):
        for refused in (begins(1, []), alike(0, 1), alike(3, 4), alike(1, 1, slowness=61), alike(1, 1, worth=1001)):
            with self.subTest(refused=refused):
                self.assertEqual(
                    numbers(alike(2, 4), day(), refused, day(where=[4]), day(where=[3]), drop(), drop(), drop()),
                    [4, 1, -1, -1, 2, 1, 0, -4],
                )

    def test_a_refused_one_ahead_of_all_leaves_no_places(self):
        self.assertEqual(numbers(alike(3, 4), day(where=[0]), drop()), [-1, -1, -4])

    def test_a_refused_one_leaves_what_answers_do_not_show_yet(self):
        season = Season()
        season.begins(2, [3, 10, 4, 20])
        season.day([1, 2, 3, 4], 5, [1])
        kept = list(season.days)
        for wide, places in ((3, [1, 1]), (1, [61, 1]), (1, [1, 1001]), (0, [1, 1]), (1, [])):
            self.assertEqual(season.begins(wide, places), -1)
            self.assertEqual((season.wide, season.slowness, season.worth), (2, [3, 4], [10, 20]))
            self.assertEqual(season.days, kept)
