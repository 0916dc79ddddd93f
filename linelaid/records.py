"""The calls that tell what is kept of a road: station, profile, state."""

from linelaid.refusals import NO_STATION


def station(road, number):
    if not road.has_station(number):
        return [NO_STATION]
    return [road.ground[number], road.one_more_than_told(number)]


def profile(road):
    return [len(road.ground)] + road.ground


def state(road):
    return [0, len(road.ground), road.grade, road.cut_price, road.fill_price, len(road.told_stations())]
