"""Promise 3: the refusals -1 and -6 of follow and evening."""

import unittest

from tests.helper import alike, apart, ask, begins, best, day, drop, evening, follow, last

ROW = begins(4, [(1, 1), (1, 10), (1, 100), (1, 1000)])
WALL = begins(3, [(1, 1), (0, 7), (1, 100)])
SPARK = day(minutes=0, where=[0])
HUGE = 4294967295


class RefusedBreaks(unittest.TestCase):
    def refused(self, number, calls, breaks, days):
        """follow refuses, and evening with each k that there is."""
        self.assertEqual(ask(*calls, follow(breaks))[-1], [number], breaks)
        for k in range(days + 1):
            self.assertEqual(ask(*calls, evening(k, breaks))[-1], [number], (k, breaks))

    def taken(self, calls, breaks, days):
        self.assertGreaterEqual(last(*calls, follow(breaks))[0], 0, breaks)
        for k in range(days + 1):
            self.assertGreaterEqual(last(*calls, evening(k, breaks))[0], 0, (k, breaks))


class NotAsTold(RefusedBreaks):
    def test_another_length_than_the_days(self):
        for days in range(4):
            for length in range(17):
                calls = [ROW] + [day()] * days
                with self.subTest(days=days, length=length):
                    if length == days:
                        self.taken(calls, [0] * length, days)
                    else:
                        self.refused(-1, calls, [0] * length, days)

    def test_a_place_that_there_is_not(self):
        self.taken((ROW, day()), [4], 1)
        for told in (5, 16, 17, HUGE):
            self.refused(-1, (ROW, day()), [told], 1)
            for breaks in ([told, 0, 0], [0, told, 0], [0, 0, told], [told, told, told]):
                self.refused(-1, (ROW, day(), day(), day()), breaks, 3)

    def test_the_last_place_of_the_largest_forest(self):
        forest = alike(4, 16)
        self.taken((forest, day()), [16], 1)
        self.refused(-1, (forest, day()), [17], 1)

    def test_ahead_of_any_begins(self):
        self.taken((), [], 0)
        self.refused(-1, (), [0], 0)
        self.refused(-1, (), [1], 0)
        self.taken((day(),), [0], 1)
        self.refused(-1, (day(),), [1], 1)
        self.refused(-1, (day(),), [], 1)

    def test_told_ahead_of_what_may_not_be_cut(self):
        self.refused(-1, (WALL, day(), day()), [2, 4], 2)
        self.refused(-1, (WALL, day(), day()), [4, 2], 2)
        self.refused(-1, (WALL, day(), day()), [2], 2)
        self.refused(-1, (WALL, day(), day()), [2, 0, 0], 2)
        self.refused(-1, (ROW, SPARK, day(), day()), [0, 1, HUGE], 3)
        self.refused(-1, (ROW, day(), day(), day()), [3, 3, 5], 3)


class MayNotBeCut(RefusedBreaks):
    def test_where_nothing_burns(self):
        self.refused(-6, (WALL, day()), [2], 1)
        self.refused(-6, (WALL, day(), day(), day()), [0, 2, 0], 3)
        self.refused(-6, (WALL, day(), day(), day()), [1, 3, 2], 3)
        self.taken((WALL, day(), day(), day()), [3, 1, 0], 3)

    def test_at_one_that_is_on_fire_from_the_day_before(self):
        self.refused(-6, (ROW, SPARK, day()), [0, 1], 2)
        self.refused(-6, (ROW, day(minutes=2, where=[0]), day()), [0, 2], 2)
        self.taken((ROW, day(minutes=1, where=[0]), day()), [0, 2], 2)
        self.taken((ROW, day(minutes=2, where=[0]), day()), [0, 3], 2)
        self.refused(-6, (ROW, day(), SPARK, day()), [0, 0, 1], 3)

    def test_at_one_that_is_burnt_out(self):
        self.refused(-6, (ROW, SPARK, day(minutes=0), day()), [0, 0, 1], 3)
        self.refused(-6, (ROW, SPARK, day(minutes=2), day()), [0, 0, 1], 3)
        self.taken((ROW, SPARK, day(minutes=0), day()), [0, 0, 2], 3)
        self.refused(-6, (ROW, SPARK, day(minutes=2), day()), [0, 0, 2], 3)

    def test_at_a_break_of_an_earlier_day(self):
        self.refused(-6, (ROW, day(), day()), [3, 3], 2)
        self.refused(-6, (ROW, day(), day(), day()), [3, 0, 3], 3)
        self.refused(-6, (ROW, day(), day(), day()), [0, 3, 3], 3)
        self.refused(-6, (ROW, day(), day(), day()), [3, 4, 4], 3)
        self.taken((ROW, day(), day(), day()), [3, 4, 2], 3)

    def test_where_lightning_strikes_that_same_morning_it_may(self):
        self.assertEqual(last(ROW, SPARK, follow([1])), [1, []])
        self.assertEqual(last(ROW, day(), SPARK, follow([0, 1])), [1, [], []])
        self.assertEqual(last(ROW, SPARK, evening(1, [1])), [1, [], [1, 2, 3]])

    def test_an_earlier_break_can_keep_a_place_for_a_later_one(self):
        calls = (ROW, day(minutes=9, where=[0]), day(), day())
        self.refused(-6, calls, [0, 3, 0], 3)
        self.taken(calls, [2, 3, 4], 3)

    def test_a_morning_behind_day_k_is_judged_too(self):
        for k in range(3):
            self.assertEqual(ask(ROW, SPARK, day(), evening(k, [0, 1]))[-1], [-6])


class AllIsAsItWas(unittest.TestCase):
    def test_behind_each_refusal(self):
        calls = [WALL, day(minutes=0, where=[0]), day(minutes=2, where=[2])]
        kept = ask(*calls, follow([0, 0]), best(), evening(1, [0, 0]))[-3:]
        self.assertEqual(apart(kept[0]), [101, [0], [2]])
        refusals = (
            (follow([0]), -1),
            (follow([0, 4]), -1),
            (follow([0, 1]), -6),
            (follow([2, 0]), -6),
            (evening(3, [0, 0]), -1),
            (evening(1, [0, 0, 0]), -1),
            (evening(2, [0, 1]), -6),
        )
        for refusal, number in refusals:
            with self.subTest(refusal=refusal):
                given = ask(*calls, refusal, follow([0, 0]), best(), evening(1, [0, 0]), drop(), drop(), drop())
                self.assertEqual(given[-7:], [[number]] + kept + [[1], [0], [-4]])
