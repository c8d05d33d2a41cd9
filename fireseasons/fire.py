"""What a day does to a forest: a break is cut, lightning strikes, fire spreads, evening comes."""

UP = 0
RIGHT = 1
DOWN = 2
LEFT = 3

NO_BREAK = 0


# Breaks are told as 0 for none, else 1 more than the place.
def break_at(place):
    return place + 1


def place_of(told):
    return told - 1


def neighbours(wide, count, place):
    found = []
    if place >= wide:
        found.append((UP, place - wide))
    if place % wide < wide - 1:
        found.append((RIGHT, place + 1))
    if place + wide < count:
        found.append((DOWN, place + wide))
    if place % wide > 0:
        found.append((LEFT, place - 1))
    return found


# From one place, each neighbour with the time that fire takes to come there.
def ways_from(place, wide, slowness, wind):
    return [
        (neighbour, (slowness[place] + slowness[neighbour]) * wind[direction])
        for direction, neighbour in neighbours(wide, len(slowness), place)
    ]


# How a day ended, or how things are ahead of them all. It is never changed: many rows of breaks go on from one.
class Evening:
    def __init__(self, burns, fire, lost):
        self.burns = burns
        # What burnt that day is just what is on fire in its evening, so one list tells both; it rises.
        self.fire = fire
        self.lost = lost

    def may_be_cut(self, place):
        return self.burns[place] and place not in self.fire

    # What could burn still is where the next morning's break may be cut.
    def could_burn(self):
        return [place for place in range(len(self.burns)) if self.may_be_cut(place)]


def evening_ahead_of_all(slowness):
    return Evening([slow > 0 for slow in slowness], [], 0)


# One day in one forest, with its ways reckoned once, since best asks for many breaks on it.
class Course:
    def __init__(self, wide, slowness, worth, day):
        self.worth = worth
        self.ways = [ways_from(place, wide, slowness, day.wind) for place in range(len(slowness))]
        self.minutes = day.minutes
        self.where = day.where

    def worth_together(self, places):
        return sum([self.worth[place] for place in places])

    # The quickest way may be a longer one: a place that is reached sooner than before is gone on from again.
    def times(self, burns, starts):
        too_late = self.minutes + 1
        times = [too_late for place in burns]
        for place in starts:
            times[place] = 0
        reached = starts
        while len(reached) > 0:
            sooner = []
            for place in reached:
                for neighbour, taken in self.ways[place]:
                    if burns[neighbour] and times[place] + taken < times[neighbour]:
                        times[neighbour] = times[place] + taken
                        sooner.append(neighbour)
            reached = sooner
        return times

    # The break must be one that may be cut.
    def evening_with(self, told, before):
        burns = list(before.burns)
        lost = before.lost
        if told != NO_BREAK:
            burns[place_of(told)] = False
            lost = lost + self.worth[place_of(told)]
        lit = [place for place in self.where if burns[place]]
        times = self.times(burns, before.fire + lit)
        for place in before.fire:
            # Burnt out only once the day's fire has spread from there; nor does it burn a second time.
            burns[place] = False
        burnt = [place for place in range(len(burns)) if burns[place] and times[place] <= self.minutes]
        return Evening(burns, burnt, lost + self.worth_together(burnt))
