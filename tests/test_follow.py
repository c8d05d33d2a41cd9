"""The call follow: what a season loses with its breaks, and what burns each day."""

import unittest

from tests.helper import CALM, alike, begins, day, follow, last

ROW = begins(4, [(1, 1), (1, 10), (1, 100), (1, 1000)])
SQUARE = alike(3, 9)


class HowManyDays(unittest.TestCase):
    def test_none(self):
        self.assertEqual(last(ROW, follow()), [0])

    def test_one(self):
        self.assertEqual(last(ROW, day(minutes=4, where=[0]), follow([0])), [111, [0, 1, 2]])

    def test_two(self):
        self.assertEqual(last(ROW, day(minutes=2, where=[0]), day(minutes=2), follow([0, 0])), [111, [0, 1], [2]])

    def test_three(self):
        self.assertEqual(
            last(ROW, day(minutes=2, where=[0]), day(minutes=2), day(minutes=2), follow([0, 0, 0])),
            [1111, [0, 1], [2], [3]],
        )

    def test_days_without_fire(self):
        self.assertEqual(last(ROW, day(), day(), day(), follow([0, 0, 0])), [0, [], [], []])

    def test_a_dropped_day_is_not_followed(self):
        self.assertEqual(last(ROW, day(where=[0], minutes=0), day(where=[3]), [2], follow([0])), [1, [0]])


class FromDayToDay(unittest.TestCase):
    def test_fire_goes_on_with_another_wind_and_is_out_the_evening_after(self):
        against = day((9, 9, 9, 9), 2, [1])
        to_the_right = day((9, 1, 9, 9), 2)
        # Place 1 is burnt out by then, so that the fire at place 2 can't come back over it to place 0.
        long = day(minutes=100000)
        self.assertEqual(last(ROW, against, to_the_right, long, follow([0, 0, 0])), [1110, [1], [2], [3]])

    def test_fire_that_did_not_spread_is_out(self):
        calls = (ROW, day(minutes=0, where=[1]), day(minutes=1), day(minutes=100000))
        self.assertEqual(last(*calls, follow([0, 0, 0])), [10, [1], [], []])

    def test_what_burnt_on_the_way_is_where_the_next_day_begins(self):
        self.assertEqual(
            last(alike(3, 9), day(minutes=2, where=[0]), day(minutes=2), follow([0, 0])),
            [6, [0, 1, 3], [2, 4, 6]],
        )

    def test_minutes_are_not_carried_over(self):
        self.assertEqual(last(ROW, day(minutes=1, where=[0]), day(minutes=1), follow([0, 0])), [1, [0], []])

    def test_a_place_is_lost_once(self):
        everywhere = day(minutes=5, where=[0, 1, 2, 3])
        self.assertEqual(
            last(ROW, everywhere, everywhere, everywhere, follow([0, 0, 0])),
            [1111, [0, 1, 2, 3], [], []],
        )

    def test_old_and_new_fire_together(self):
        self.assertEqual(
            last(ROW, day(minutes=0, where=[0]), day(minutes=2, where=[3]), follow([0, 0])),
            [1111, [0], [1, 2, 3]],
        )


class Lightning(unittest.TestCase):
    def test_at_several_places(self):
        self.assertEqual(last(ROW, day(minutes=0, where=[0, 2]), follow([0])), [101, [0, 2]])

    def test_where_there_is_fire_already(self):
        strike = day(minutes=0, where=[1])
        # Were it set on fire anew, it would burn on the third day still.
        self.assertEqual(last(ROW, strike, strike, day(minutes=9), follow([0, 0, 0])), [10, [1], [], []])

    def test_where_it_is_burnt_out(self):
        strike = day(minutes=0, where=[1])
        self.assertEqual(
            last(ROW, strike, day(minutes=0), day(minutes=9, where=[1]), follow([0, 0, 0])),
            [10, [1], [], []],
        )

    def test_at_a_break(self):
        strike = day(minutes=9, where=[1])
        self.assertEqual(last(ROW, strike, follow([2])), [10, []])
        self.assertEqual(last(ROW, strike, strike, strike, follow([2, 0, 0])), [10, [], [], []])
        self.assertEqual(last(ROW, day(), strike, follow([2, 0])), [10, [], []])

    def test_where_nothing_burns(self):
        forest = begins(3, [(1, 5), (0, 7), (1, 9)])
        self.assertEqual(last(forest, day(minutes=100000, where=[1]), follow([0])), [0, []])
        self.assertEqual(last(forest, day(minutes=100000, where=[0, 1]), follow([0])), [5, [0]])


class HowFar(unittest.TestCase):
    def test_just_at_the_minutes_and_one_too_late(self):
        forest = begins(2, [(3, 1), (4, 10)])
        wind = (9, 5, 9, 9)
        self.assertEqual(last(forest, day(wind, 35, [0]), follow([0])), [11, [0, 1]])
        self.assertEqual(last(forest, day(wind, 34, [0]), follow([0])), [1, [0]])
        self.assertEqual(last(forest, day(wind, 36, [0]), follow([0])), [11, [0, 1]])

    def test_over_several_places(self):
        forest = begins(3, [(3, 1), (4, 10), (60, 100)])
        self.assertEqual(last(forest, day((1, 2, 1, 1), 142, [0]), follow([0])), [111, [0, 1, 2]])
        self.assertEqual(last(forest, day((1, 2, 1, 1), 141, [0]), follow([0])), [11, [0, 1]])

    def test_on_the_second_day(self):
        forest = begins(2, [(3, 1), (4, 10)])
        calls = (forest, day(minutes=0, where=[0]))
        self.assertEqual(last(*calls, day((1, 5, 1, 1), 35), follow([0, 0])), [11, [0], [1]])
        self.assertEqual(last(*calls, day((1, 5, 1, 1), 34), follow([0, 0])), [1, [0], []])

    def test_no_minutes(self):
        self.assertEqual(last(ROW, day(minutes=0, where=[2]), follow([0])), [100, [2]])

    def test_the_slowest_forest_and_the_strongest_wind(self):
        forest = alike(4, 16, 60, 1000)
        across = 6 * 120 * 9
        self.assertEqual(last(forest, day([9] * 4, across, [0]), follow([0])), [16000, list(range(16))])
        self.assertEqual(last(forest, day([9] * 4, across - 1, [0]), follow([0])), [15000, list(range(15))])

    def test_the_quickest_way_is_a_longer_one(self):
        forest = begins(3, [(1, 1), (60, 1), (1, 1), (1, 1), (1, 1), (1, 1)])
        self.assertEqual(last(forest, day(minutes=8, where=[0]), follow([0])), [5, [0, 2, 3, 4, 5]])
        self.assertEqual(last(forest, day(minutes=7, where=[0]), follow([0])), [4, [0, 3, 4, 5]])

    def test_the_quickest_way_is_a_longer_one_by_the_wind(self):
        # Straight to the right it takes 810 minutes; down 31, to the right 18, up 61.
        forest = begins(2, [(30, 1), (60, 1), (1, 1), (1, 1)])
        wind = (1, 9, 1, 1)
        self.assertEqual(last(forest, day(wind, 110, [0]), follow([0])), [4, [0, 1, 2, 3]])
        self.assertEqual(last(forest, day(wind, 109, [0]), follow([0])), [3, [0, 2, 3]])

    def test_fire_goes_on_from_the_quickest_time(self):
        # Place 1 is reached straight in 160 minutes, round from below in 50; from there it takes 160 to place 2.
        forest = begins(3, [(20, 1), (20, 1), (20, 1), (1, 1), (1, 1), (0, 0)])
        wind = (1, 4, 1, 1)
        self.assertEqual(last(forest, day(wind, 49, [0]), follow([0])), [3, [0, 3, 4]])
        self.assertEqual(last(forest, day(wind, 50, [0]), follow([0])), [4, [0, 1, 3, 4]])
        self.assertEqual(last(forest, day(wind, 209, [0]), follow([0])), [4, [0, 1, 3, 4]])
        self.assertEqual(last(forest, day(wind, 210, [0]), follow([0])), [5, [0, 1, 2, 3, 4]])


class Directions(unittest.TestCase):
    def test_four_unlike_winds(self):
        reached = {
            1: [4],
            2: [1, 4],
            3: [1, 4],
            4: [1, 4, 5],
            6: [1, 2, 4, 5, 7],
            8: [1, 2, 3, 4, 5, 7],
            10: [0, 1, 2, 3, 4, 5, 7, 8],
            13: [0, 1, 2, 3, 4, 5, 7, 8],
            14: list(range(9)),
        }
        for minutes, places in reached.items():
            with self.subTest(minutes=minutes):
                self.assertEqual(last(SQUARE, day((1, 2, 3, 4), minutes, [4]), follow([0])), [len(places), places])

    def test_each_direction_in_each_order(self):
        cross = begins(3, [(0, 0), (1, 1), (0, 0), (1, 1), (1, 1), (1, 1), (0, 0), (1, 1), (0, 0)])
        winds = ((1, 2, 3, 4), (4, 3, 2, 1), (2, 4, 1, 3), (3, 1, 4, 2))
        for wind in winds:
            above, right, below, left = [2 * force for force in wind]
            times = {1: above, 5: right, 7: below, 3: left, 4: 0}
            for minutes in range(10):
                places = sorted(place for place in times if times[place] <= minutes)
                with self.subTest(wind=wind, minutes=minutes):
                    self.assertEqual(last(cross, day(wind, minutes, [4]), follow([0])), [len(places), places])

    def test_a_row_does_not_go_on_in_the_next(self):
        forest = begins(2, [(0, 0), (1, 1), (1, 1), (0, 0)])
        self.assertEqual(last(forest, day(minutes=100000, where=[1]), follow([0])), [1, [1]])
        self.assertEqual(last(forest, day(minutes=100000, where=[2]), follow([0])), [1, [2]])

    def test_one_in_a_row(self):
        forest = begins(1, [(1, 1), (1, 10), (1, 100), (1, 1000)])
        self.assertEqual(last(forest, day((1, 9, 2, 9), 4, [1]), follow([0])), [111, [0, 1, 2]])
        self.assertEqual(last(forest, day((1, 9, 2, 9), 3, [1]), follow([0])), [11, [0, 1]])


class WorthAndSlowness(unittest.TestCase):
    def test_a_worth_of_none_burns_all_the_same(self):
        forest = begins(3, [(1, 0), (1, 0), (1, 8)])
        self.assertEqual(last(forest, day(minutes=2, where=[0]), follow([0])), [0, [0, 1]])
        self.assertEqual(last(forest, day(minutes=4, where=[0]), follow([0])), [8, [0, 1, 2]])

    def test_fire_stops_where_nothing_burns(self):
        forest = begins(3, [(1, 3), (0, 500), (1, 8)])
        self.assertEqual(last(forest, day(minutes=100000, where=[0]), follow([0])), [3, [0]])

    def test_a_forest_that_does_not_burn(self):
        forest = alike(4, 16, 0, 1000)
        self.assertEqual(last(forest, day(minutes=100000, where=list(range(16))), follow([0])), [0, []])


class Breaks(unittest.TestCase):
    def test_its_worth_is_lost_without_any_fire(self):
        self.assertEqual(last(ROW, day(), follow([3])), [100, []])
        self.assertEqual(last(ROW, day(), day(), day(), follow([3, 1, 2])), [111, [], [], []])

    def test_it_stops_fire(self):
        self.assertEqual(last(ROW, day(minutes=100000, where=[0]), follow([2])), [11, [0]])

    def test_it_stops_fire_on_each_later_day(self):
        calls = (ROW, day(), day(minutes=9, where=[0]), day(minutes=9, where=[0]))
        self.assertEqual(last(*calls, follow([3, 0, 0])), [111, [], [0, 1], []])

    def test_it_is_cut_on_its_own_morning(self):
        calls = (ROW, day(minutes=2, where=[0]), day(minutes=9))
        self.assertEqual(last(*calls, follow([0, 3])), [111, [0, 1], []])
        self.assertEqual(last(*calls, follow([0, 4])), [1111, [0, 1], [2]])
        self.assertEqual(last(*calls, follow([4, 0])), [1111, [0, 1], [2]])

    def test_each_place_of_a_forest(self):
        for place in range(16):
            with self.subTest(place=place):
                forest = begins(4, [(1, 2 * other) for other in range(16)])
                self.assertEqual(last(forest, day(CALM), follow([place + 1])), [2 * place, []])

    def test_fire_goes_round_a_break(self):
        self.assertEqual(last(SQUARE, day(minutes=8, where=[3]), follow([5])), [9, [0, 1, 2, 3, 5, 6, 7, 8]])
        self.assertEqual(last(SQUARE, day(minutes=7, where=[3]), follow([5])), [8, [0, 1, 2, 3, 6, 7, 8]])
