"""Rows of breaks over a season: what comes of one row, and which lose the least."""

from fireseasons.fire import NO_BREAK, break_at, place_of


class MayNotBeCut(ValueError):
    pass


# The evening ahead of all days, then that of each day.
def follow_breaks(courses, ahead, breaks):
    evenings = [ahead]
    for course, told in zip(courses, breaks):
        before = evenings[-1]
        if told != NO_BREAK and not before.may_be_cut(place_of(told)):
            raise MayNotBeCut(f"no break may be told as {told} on that morning")
        evenings.append(course.evening_with(told, before))
    return evenings


# A row of breaks up to some day, with the evening to which it leads.
class Row:
    def __init__(self, breaks, last):
        self.breaks = breaks
        self.last = last

    # No break first, then the lower places: so rows come in their order, the earliest first.
    def longer_by(self, course):
        choices = [NO_BREAK] + [break_at(place) for place in self.last.could_burn()]
        return [Row(self.breaks + [told], course.evening_with(told, self.last)) for told in choices]


def all_rows(courses, ahead):
    rows = [Row([], ahead)]
    for course in courses:
        longer = []
        for row in rows:
            longer.extend(row.longer_by(course))
        rows = longer
    return rows


# All rows that lose the least, the earliest first.
def best_rows(courses, ahead):
    rows = all_rows(courses, ahead)
    least = min([row.last.lost for row in rows])
    return [row for row in rows if row.last.lost == least]
