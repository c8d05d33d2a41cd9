"""Builds calls as the interface tells them, and takes their answers apart."""

from fireseasons.season import answers

CALM = (1, 1, 1, 1)


def begins(wide, places):
    """The call begins, its places as pairs of slowness and worth."""
    flat = [number for place in places for number in place]
    return [0, wide, len(flat)] + flat


def alike(wide, count, slowness=1, worth=1):
    """The call begins with so many places, one like another."""
    return begins(wide, [(slowness, worth)] * count)


def day(wind=CALM, minutes=10, where=()):
    """The call day."""
    return [1] + list(wind) + [minutes, len(where)] + list(where)


def drop():
    """The call drop."""
    return [2]


def follow(breaks=()):
    """The call follow."""
    return [3, len(breaks)] + list(breaks)


def best():
    """The call best."""
    return [4]


def evening(k, breaks=()):
    """The call evening."""
    return [5, k, len(breaks)] + list(breaks)


def line(*calls):
    """Calls one behind another, as one list."""
    return [number for call in calls for number in call]


def cut_up(given):
    """Lists that stand one behind another, each behind its length."""
    taken = []
    at = 0
    while at < len(given):
        end = at + 1 + given[at]
        if given[at] < 0 or end > len(given):
            raise AssertionError(f"a wrong length at {at}: {given}")
        taken.append(given[at + 1:end])
        at = end
    return taken


def ask(*calls):
    """Each call's answer as a list; each must stand behind its length, and have a number at least."""
    given = answers(line(*calls))
    taken = cut_up(given)
    if [] in taken:
        raise AssertionError(f"an answer is empty: {given}")
    if len(taken) != len(calls):
        raise AssertionError(f"{len(calls)} calls, {len(taken)} answers: {given}")
    return taken


def numbers(*calls):
    """Each call's answer, where every answer is one number alone."""
    singles = ask(*calls)
    for single in singles:
        if len(single) != 1:
            raise AssertionError(f"not one number alone: {single}")
    return [single[0] for single in singles]


def apart(answer):
    """An answer's number, then each list that stands behind its length."""
    return answer[:1] + cut_up(answer[1:])


def last(*calls):
    """The last call's answer, its lists taken apart."""
    return apart(ask(*calls)[-1])
