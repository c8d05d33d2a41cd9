"""The calls on one forest and its days, and what they answer.

answers(calls) is the way in: it takes one list of calls on a new forest and
gives back, for each call in order, how many numbers it answers and these.
"""

from fireseasons.breaks import MayNotBeCut, best_rows, follow_breaks
from fireseasons.fire import Course, evening_ahead_of_all

BEGINS = 0
DAY = 1
DROP = 2
FOLLOW = 3
BEST = 4
EVENING = 5

NOT_AS_TOLD = -1
NO_DAYS = -4
ENOUGH_DAYS = -5
NOT_CUT_THERE = -6

MOST_IN_A_ROW = 4
MOST_ROWS = 4
SLOWEST = 60
MOST_WORTH = 1000
STRONGEST_WIND = 9
MOST_MINUTES = 100000
MOST_DAYS = 3
DIRECTIONS = 4


class UnknownCall(ValueError):
    pass


def all_between(numbers, lowest, highest):
    return all([lowest <= number <= highest for number in numbers])


def is_rising(numbers):
    return all([numbers[k - 1] < numbers[k] for k in range(1, len(numbers))])


def are_full_rows(wide, count):
    # The width is judged first: nothing can be divided by a width of 0.
    if not 1 <= wide <= MOST_IN_A_ROW:
        return False
    return count % wide == 0 and 1 <= count // wide <= MOST_ROWS


# The interface hands in each place as two numbers, its slowness, then its worth.
def slowness_of(places):
    return places[0::2]


def worth_of(places):
    return places[1::2]


def is_forest(wide, places):
    if len(places) % 2 != 0 or not are_full_rows(wide, len(places) // 2):
        return False
    return all_between(slowness_of(places), 0, SLOWEST) and all_between(worth_of(places), 0, MOST_WORTH)


class Day:
    def __init__(self, wind, minutes, where):
        self.wind = wind
        self.minutes = minutes
        self.where = where

    def is_as_told(self, count):
        if not all_between(self.wind, 1, STRONGEST_WIND) or not 0 <= self.minutes <= MOST_MINUTES:
            return False
        return all_between(self.where, 0, count - 1) and is_rising(self.where)


def behind_lengths(lists):
    told = []
    for one in lists:
        told.append(len(one))
        told.extend(one)
    return told


# Its calls judge first and change afterwards, so that a refusal leaves all as it was.
class Season:
    def __init__(self):
        self.wide = 0
        self.slowness = []
        self.worth = []
        self.days = []

    def begins(self, wide, places):
        if not is_forest(wide, places):
            return NOT_AS_TOLD
        self.wide = wide
        self.slowness = slowness_of(places)
        self.worth = worth_of(places)
        self.days = []
        return len(self.slowness)

    def day(self, wind, minutes, where):
        added = Day(wind, minutes, where)
        # Of several refusals the one told first is answered, so a wrong fourth day is not as told.
        if not added.is_as_told(len(self.slowness)):
            return NOT_AS_TOLD
        if len(self.days) >= MOST_DAYS:
            return ENOUGH_DAYS
        self.days.append(added)
        return len(self.days)

    def drop(self):
        if len(self.days) == 0:
            return NO_DAYS
        self.days.pop()
        return len(self.days)

    def are_breaks(self, breaks):
        # A break is told as 1 more than its place, so the count of places is the highest there is.
        return len(breaks) == len(self.days) and all_between(breaks, 0, len(self.slowness))

    def ahead(self):
        return evening_ahead_of_all(self.slowness)

    def courses(self):
        return [Course(self.wide, self.slowness, self.worth, day) for day in self.days]

    def follow(self, breaks):
        if not self.are_breaks(breaks):
            return [NOT_AS_TOLD]
        try:
            evenings = follow_breaks(self.courses(), self.ahead(), breaks)
        except MayNotBeCut:
            return [NOT_CUT_THERE]
        return [evenings[-1].lost] + behind_lengths([evening.fire for evening in evenings[1:]])

    def best(self):
        rows = best_rows(self.courses(), self.ahead())
        return [rows[0].last.lost] + behind_lengths([[len(rows)], rows[0].breaks])

    # Breaks on the mornings behind day k are judged too: the row as a whole must be one that may be cut.
    def evening(self, k, breaks):
        if not self.are_breaks(breaks) or k > len(self.days):
            return [NOT_AS_TOLD]
        try:
            evenings = follow_breaks(self.courses(), self.ahead(), breaks)
        except MayNotBeCut:
            return [NOT_CUT_THERE]
        return [evenings[k].lost] + behind_lengths([evenings[k].fire, evenings[k].could_burn()])


# Hands on copies alone, so that nothing kept of a call is a part of the list handed in.
class Reader:
    def __init__(self, calls):
        self.calls = calls
        self.position = 0

    def is_done(self):
        return self.position >= len(self.calls)

    def take(self, many):
        taken = self.calls[self.position:self.position + many]
        self.position = self.position + many
        return taken

    def number(self):
        return self.take(1)[0]

    def row(self):
        return self.take(self.number())


# A call is read to its end before it is judged: a refused one must not leave numbers behind.
def answer_begins(season, reader):
    wide = reader.number()
    places = reader.row()
    return [season.begins(wide, places)]


def answer_day(season, reader):
    wind = reader.take(DIRECTIONS)
    minutes = reader.number()
    where = reader.row()
    return [season.day(wind, minutes, where)]


def answer_evening(season, reader):
    k = reader.number()
    breaks = reader.row()
    return season.evening(k, breaks)


def answer_call(season, reader):
    call = reader.number()
    if call == BEGINS:
        return answer_begins(season, reader)
    if call == DAY:
        return answer_day(season, reader)
    if call == DROP:
        return [season.drop()]
    if call == FOLLOW:
        return season.follow(reader.row())
    if call == BEST:
        return season.best()
    if call == EVENING:
        return answer_evening(season, reader)
    raise UnknownCall(f"no call has the number {call}")


def answers(calls):
    season = Season()
    reader = Reader(calls)
    given = []
    while not reader.is_done():
        answer = answer_call(season, reader)
        given.append(len(answer))
        given.extend(answer)
    return given
