"""The call best: no breaks lose less."""

import time
import unittest

from tests.helper import alike, ask, begins, best, day, drop, evening, follow, last

ROW = begins(4, [(1, 1), (1, 10), (1, 100), (1, 1000)])


class Small(unittest.TestCase):
    def test_no_days(self):
        self.assertEqual(last(ROW, best()), [0, [1], []])
        self.assertEqual(last(best()), [0, [1], []])
        self.assertEqual(ask(best())[-1], [0, 1, 1, 0])

    def test_no_places(self):
        self.assertEqual(last(day(), best()), [0, [1], [0]])
        self.assertEqual(last(day(), day(), day(), best()), [0, [1], [0, 0, 0]])

    def test_as_the_interface_writes_it(self):
        self.assertEqual(ask(ROW, day(minutes=9, where=[0]), best())[-1], [1, 1, 1, 1, 1])

    def test_nothing_burns(self):
        self.assertEqual(last(alike(4, 16, 0, 5), day(where=[0]), day(), day(), best()), [0, [1], [0, 0, 0]])

    def test_no_fire(self):
        self.assertEqual(last(ROW, day(), day(), best()), [0, [1], [0, 0]])


class Which(unittest.TestCase):
    def test_a_break_where_lightning_strikes(self):
        self.assertEqual(last(ROW, day(minutes=9, where=[0]), best()), [1, [1], [1]])

    def test_a_break_between(self):
        # Fires at 0 and 4 both come to what is worth most over place 1 alone.
        forest = begins(3, [(1, 50), (1, 3), (1, 1000), (0, 0), (1, 50), (0, 0)])
        self.assertEqual(last(forest, day(minutes=9, where=[0, 4]), best()), [103, [1], [2]])

    def test_on_which_morning(self):
        # One fire is cut off where lightning would strike, the other a day later on its way.
        forest = begins(3, [(1, 0), (1, 5), (1, 600), (1, 0), (1, 5), (1, 600)])
        calls = (forest, day(minutes=0, where=[0, 3]), day(minutes=100))
        self.assertEqual(last(*calls, best()), [5, [2], [1, 5]])
        self.assertEqual(last(*calls, follow([1, 5])), [5, [3], []])
        self.assertEqual(last(*calls, follow([4, 2])), [5, [0], []])

    def test_a_break_on_a_day_without_fire(self):
        # On the second morning there are two fires to stop, so the first morning's break must be one of them.
        forest = begins(4, [(1, 1), (1, 300), (0, 0), (1, 1), (0, 0), (0, 0), (0, 0), (1, 300)])
        calls = (forest, day(), day(minutes=2, where=[0, 3]))
        self.assertEqual(last(*calls, best()), [2, [2], [1, 4]])

    def test_the_break_that_saves_most_on_its_own_day_is_not_among_the_best(self):
        # Two fires apart from one another: one takes 50 on the first day, the other 20, and 200 on the second.
        above = [(1, 0), (1, 50), (0, 0), (0, 0)]
        below = [(1, 0), (1, 20), (1, 200), (0, 0)]
        forest = begins(4, above + [(0, 0)] * 4 + below)
        calls = (forest, day(minutes=2, where=[0, 8]), day(minutes=2))
        on_its_own_day = {told: last(*calls, evening(1, [told, 0]))[0] for told in (0, 1, 2, 9, 10, 11)}
        self.assertEqual(on_its_own_day, {0: 70, 1: 20, 2: 70, 9: 50, 10: 70, 11: 270})
        self.assertEqual(last(*calls, follow([1, 0])), [220, [8, 9], [10]])
        self.assertEqual(last(*calls, follow([1, 11])), [220, [8, 9], []])
        self.assertEqual(last(*calls, best()), [50, [1], [9, 0]])


class HowMany(unittest.TestCase):
    def test_all_rows_lose_nothing(self):
        # None or 3 on the first day; on the second, none or what is left: 4 + 3 * 3.
        self.assertEqual(last(alike(3, 3, 1, 0), day(), best()), [0, [4], [0]])
        self.assertEqual(last(alike(3, 3, 1, 0), day(), day(), best()), [0, [13], [0, 0]])
        self.assertEqual(last(alike(1, 1, 1, 0), day(), day(), day(), best()), [0, [4], [0, 0, 0]])

    def test_the_order_of_two_breaks_makes_two_rows(self):
        forest = begins(3, [(1, 0), (0, 0), (1, 0)])
        # 00; 01, 03; 10, 13; 30, 31.
        self.assertEqual(last(forest, day(), day(), best()), [0, [7], [0, 0]])

    def test_the_earliest_has_none_or_the_lower_place(self):
        # The break is worth as much as what burns else: none, or any one of those that would burn.
        forest = alike(2, 2, 1, 5)
        self.assertEqual(last(forest, day(minutes=2, where=[0]), best()), [5, [1], [1]])
        self.assertEqual(last(forest, day(minutes=0, where=[0, 1]), best()), [10, [3], [0]])
        self.assertEqual(last(forest, day(minutes=0, where=[1]), best()), [5, [2], [0]])

    def test_the_first_day_on_which_they_differ_tells(self):
        # Cut at place 0 on either morning: none on the first is earlier, though place 0 comes on the second then.
        forest = alike(4, 4, 1, 9)
        calls = (forest, day(), day(minutes=9, where=[0]))
        self.assertEqual(last(*calls, best()), [9, [2], [0, 1]])
        self.assertEqual(last(*calls, follow([1, 0])), [9, [], []])

    def test_the_lower_place_is_earlier_than_the_higher(self):
        # Two fires alike, and one break.
        forest = begins(4, [(1, 1), (1, 90), (0, 0), (1, 1), (0, 0), (0, 0), (0, 0), (1, 90)])
        calls = (forest, day(minutes=2, where=[0, 3]))
        self.assertEqual(last(*calls, best()), [92, [2], [1]])
        self.assertEqual(last(*calls, follow([4])), [92, [0, 1]])

    def test_sixteen_places_without_worth(self):
        calls = (alike(4, 16, 1, 0), day(), day(), day())
        # Rows of three different places or none: 1 + 3 * 16 + 3 * 16 * 15 + 16 * 15 * 14.
        self.assertEqual(last(*calls, best()), [0, [4129], [0, 0, 0]])


class Often(unittest.TestCase):
    def test_sixteen_places_and_three_days_in_some_seconds(self):
        for minutes in (2, 6, 100000):
            calls = [alike(4, 16, 1, 1), day(), day(minutes=0, where=[0]), day(minutes=minutes, where=[5])]
            began = time.monotonic()
            self.assertGreaterEqual(last(*calls, best())[0], 0)
            self.assertLess(time.monotonic() - began, 5)

    def test_more_than_four_in_one_list(self):
        calls = [ROW, day(minutes=9, where=[0])] + [best()] * 38
        self.assertEqual(ask(*calls)[2:], [[1, 1, 1, 1, 1]] * 38)

    def test_between_other_calls(self):
        given = ask(best(), ROW, best(), day(minutes=9, where=[0]), best(), day(), best(), drop(), best(), drop(), best())
        none = [0, 1, 1, 0]
        self.assertEqual(
            given,
            [none, [4], none, [1], [1, 1, 1, 1, 1], [2], [1, 1, 1, 2, 1, 0], [1], [1, 1, 1, 1, 1], [0], none],
        )

    def test_what_best_tells_is_what_follow_answers(self):
        calls = (alike(3, 9, 2, 7), day((1, 2, 3, 4), 8, [4]), day((4, 3, 2, 1), 12, [0]), day(minutes=8))
        least, many, breaks = last(*calls, best())
        self.assertEqual(last(*calls, follow(breaks))[0], least)
        self.assertGreaterEqual(many[0], 1)
