"""The calls that look at a road's lines and change nothing."""

from linelaid.limits import are_heights
from linelaid.lines import cheapest, cost_of, cut_of, filled_of, is_line
from linelaid.refusals import NO_LINE, OUT_OF_RANGE


def can(road):
    return [0 if cheapest(road) is None else 1]


def cost(road):
    row = cheapest(road)
    if row is None:
        return [NO_LINE]
    return [cost_of(road, row)]


def line(road):
    row = cheapest(road)
    if row is None:
        return [NO_LINE]
    return [len(row)] + row


def earth(road):
    row = cheapest(road)
    if row is None:
        return [NO_LINE]
    return [cut_of(road, row), filled_of(road, row)]


def tried(road, row):
    # The length goes first, so that a very long row isn't walked.
    if len(row) != len(road.ground) or not are_heights(row):
        return [OUT_OF_RANGE]
    if not is_line(road, row):
        return [NO_LINE]
    return [cost_of(road, row), cut_of(road, row), filled_of(road, row)]
