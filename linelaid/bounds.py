"""The calls that tell what the told heights allow: why, leastgrade, between.

A line is there just if no two told heights are too far off one another, so no line has to be looked for.
"""

from linelaid.limits import HIGHEST
from linelaid.refusals import NO_LINE, NO_STATION, NONE_TOO_FAR


def why(road):
    pair = first_too_far(road, road.grade)
    if pair is None:
        return [NONE_TOO_FAR]
    return pair


def leastgrade(road):
    # It ends at 40 at the latest, for no two heights differ by more.
    grade = 0
    while first_too_far(road, grade) is not None:
        grade += 1
    return [grade]


def between(road, station):
    if not road.has_station(station):
        return [NO_STATION]
    if first_too_far(road, road.grade) is not None:
        return [NO_LINE]
    return [lowest(road, station), highest(road, station)]


def first_too_far(road, grade):
    """The first two stations whose told heights no line by that grade can join; None where there are none."""
    told = road.told_stations()
    for lesser in told:
        for greater in told:
            if lesser < greater and is_too_far(road, lesser, greater, grade):
                return [lesser, greater]
    return None


def is_too_far(road, lesser, greater, grade):
    return abs(road.told[lesser] - road.told[greater]) > grade * (greater - lesser)


def lowest(road, station):
    floors = [road.told[other] - reach(road, station, other) for other in road.told_stations()]
    return max(0, max(floors))


def highest(road, station):
    ceilings = [road.told[other] + reach(road, station, other) for other in road.told_stations()]
    return min(HIGHEST, min(ceilings))


def reach(road, station, other):
    """How far a line can rise or fall between two stations."""
    return road.grade * abs(station - other)
