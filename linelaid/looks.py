"""The calls that look at the cheapest line, or at one that is handed in."""

from linelaid.limits import are_heights
from linelaid.lines import cheapest, cost_of, cut_of, filled_of, is_line, least_cost
from linelaid.refusals import NO_LINE, OUT_OF_RANGE


def can(road):
    return [0 if cheapest(road) is None else 1]


def cost(road):
    least = least_cost(road)
    return [NO_LINE if least is None else least]


def line(road):
    row = cheapest(road)
    if row is None:
        return [NO_LINE]
    return [len(row)] + row


def earth(road):
    row = cheapest(road)
    if row is None:
        return [NO_LINE]
    return [cut_of(road, row), filled_of(road, row)]


def tried(road, row):
    # The length goes first, so that a very long row isn't walked.
    if len(row) != len(road.ground) or not are_heights(row):
        return [OUT_OF_RANGE]
    if not is_line(road, row):
        return [NO_LINE]
    return [cost_of(road, row), cut_of(road, row), filled_of(road, row)]


def steep(road):
    row = cheapest(road)
    if row is None:
        return [NO_LINE]
    starts = [start for start in range(len(row) - 1) if abs(row[start + 1] - row[start]) == road.grade]
    return [len(starts)] + starts


def flat(road):
    row = cheapest(road)
    if row is None:
        return [NO_LINE]
    return longest_level(row)


def longest_level(row):
    """How many stations the longest stretch of one height has, then where it begins: of like ones the first."""
    longest = 0
    longest_start = 0
    start = 0
    for station, height in enumerate(row):
        if height != row[start]:
            start = station
        many = station - start + 1
        if many > longest:
            longest = many
            longest_start = start
    return [longest, longest_start]
