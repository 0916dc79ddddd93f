"""The calls that tell what the cheapest line would cost, were the road another: ifgrade, through, worth."""

from linelaid.limits import HIGHEST, is_height
from linelaid.lines import least_cost
from linelaid.looks import cost
from linelaid.refusals import NO_LINE, NO_STATION, OUT_OF_RANGE


def ifgrade(road, grade):
    # A grade as great as the greatest height can be asked for, though none so great can be set.
    if grade > HIGHEST:
        return [OUT_OF_RANGE]
    other = road.copied()
    other.grade = grade
    return cost(other)


def through(road, station, height):
    if not road.has_station(station):
        return [NO_STATION]
    if not is_height(height):
        return [OUT_OF_RANGE]
    told = road.told[station]
    if told is not None and told != height:
        return [NO_LINE]
    other = road.copied()
    other.told[station] = height
    return cost(other)


def worth(road, station):
    # It asks what free would bring, and is refused first where free is.
    other = road.copied()
    freed = other.free(station)
    if freed[0] < 0:
        return freed
    least = least_cost(road)
    if least is None:
        return [NO_LINE]
    # The line that there is stays one with a height less told, so there's a cheapest then too.
    would = least_cost(other)
    return [least - would, would]
