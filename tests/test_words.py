"""Seasons by the hundred against the document's words, told here a second time in another way.

Places are pairs of row and column, fire creeps until nothing changes, and rows of breaks are all tried.
"""

import itertools
import random
import unittest

from tests.helper import apart, ask, begins, best, day, evening, follow

STEPS = ((-1, 0), (0, 1), (1, 0), (0, -1))


class Told:
    """One season: its forest as dicts by row and column, its days as tuples."""

    def __init__(self, wide, places, days):
        self.spots = [(number // wide, number % wide) for number in range(len(places))]
        self.slow = {spot: place[0] for spot, place in zip(self.spots, places)}
        self.worth = {spot: place[1] for spot, place in zip(self.spots, places)}
        self.days = days

    def numbered(self, spots):
        return [number for number, spot in enumerate(self.spots) if spot in spots]

    def reached(self, live, lit, wind, minutes):
        arrival = {spot: 0 for spot in lit}
        while True:
            before = dict(arrival)
            for (row, column), (step, force) in itertools.product(before, zip(STEPS, wind)):
                other = (row + step[0], column + step[1])
                if other in live:
                    late = before[row, column] + (self.slow[row, column] + self.slow[other]) * force
                    arrival[other] = min(late, arrival.get(other, late))
            if arrival == before:
                return {spot for spot in arrival if arrival[spot] <= minutes}

    def evenings(self, breaks):
        """A triple of lost, on fire, could burn still for each evening; None where a break may not be cut."""
        live = {spot for spot in self.spots if self.slow[spot]}
        fire = set()
        lost = 0
        told = [(0, [], self.numbered(live))]
        for (wind, minutes, where), number in zip(self.days, breaks):
            if number:
                spot = self.spots[number - 1]
                if spot not in live - fire:
                    return None
                live = live - {spot}
                lost += self.worth[spot]
            lit = fire | {self.spots[place] for place in where} & live
            burnt = self.reached(live, lit, wind, minutes) - fire
            lost += sum(self.worth[spot] for spot in burnt)
            live, fire = live - fire, burnt
            told.append((lost, self.numbered(fire), self.numbered(live - fire)))
        return told


def seasons(seed, many, places, days):
    """So many seasons, always the same ones."""
    chance = random.Random(seed)
    for turn in range(many):
        wide = chance.randint(1, 4)
        high = chance.randint(1, max(1, min(4, places // wide)))
        count = wide * high
        forest = [(chance.choice((0, 1, 1, 2, 7, 60)), chance.choice((0, 0, 1, 2, 5, 1000))) for place in range(count)]
        told = []
        for number in range(chance.randint(0, days)):
            wind = tuple(chance.randint(1, 9) for step in STEPS)
            where = sorted(chance.sample(range(count), chance.randint(0, min(2, count))))
            told.append((wind, chance.choice((0, 2, 5, 12, 30, 80, 400)), where))
        yield wide, forest, told


def expected(evenings, k=None):
    if evenings is None:
        return [-6]
    if k is None:
        return [evenings[-1][0]] + [fire for lost, fire, could in evenings[1:]]
    return list(evenings[k])


class Words(unittest.TestCase):
    def check(self, wide, forest, days):
        told = Told(wide, forest, days)
        opening = [begins(wide, forest)] + [day(*one) for one in days]
        rows = [list(row) for row in itertools.product(range(len(forest) + 1), repeat=len(days))]
        calls = [call for row in rows for call in [follow(row)] + [evening(k, row) for k in range(len(days) + 1)]]
        given = [apart(answer) for answer in ask(*opening, *calls, best())[len(opening):]]
        wanted = []
        losses = []
        for row in rows:
            evenings = told.evenings(row)
            wanted.append(expected(evenings))
            wanted.extend(expected(evenings, k) for k in range(len(days) + 1))
            if evenings is not None:
                losses.append((evenings[-1][0], row))
        least = min(losses)
        wanted.append([least[0], [len([loss for loss, row in losses if loss == least[0]])], least[1]])
        self.assertEqual(given, wanted, (wide, forest, days))

    def test_small_forests_and_three_days(self):
        for wide, forest, days in seasons(1, 120, 4, 3):
            self.check(wide, forest, days)

    def test_larger_forests_and_two_days(self):
        for wide, forest, days in seasons(2, 40, 16, 2):
            self.check(wide, forest, days)
