"""Lines over a road's ground: whether a row of heights is one, what it costs, and which is the cheapest.

Nothing here changes the road.
"""

from linelaid.limits import HIGHEST


def is_line(road, row):
    """Whether a row of as many heights as there are stations is a line."""
    return keeps_told(road, row) and keeps_grade(road, row)


def keeps_told(road, row):
    return all([told is None or told == height for told, height in zip(road.told, row)])


def keeps_grade(road, row):
    return all([abs(height - after) <= road.grade for height, after in zip(row, row[1:])])


def cut_of(road, row):
    return sum([max(0, ground - height) for ground, height in zip(road.ground, row)])


def filled_of(road, row):
    return sum([max(0, height - ground) for ground, height in zip(road.ground, row)])


def cost_of(road, row):
    return cut_of(road, row) * road.cut_price + filled_of(road, row) * road.fill_price


def least_cost(road):
    """What the cheapest line costs; None where there's no line."""
    row = cheapest(road)
    return None if row is None else cost_of(road, row)


def cheapest(road):
    """The heights of the cheapest line, the first of like ones; None where there's no line."""
    onward = costs_onward(road)
    height = road.told[0]
    if onward[0][height] is None:
        return None
    row = [height]
    for costs in onward[1:]:
        height = best_step(costs, height, road.grade)
        row.append(height)
    return row


def costs_onward(road):
    """For each station, by height: the least cost from there to the last one, None where no line goes on.

    It's gone from the last station back, so that a walk from the first one can take the lesser of like heights.
    """
    last = len(road.ground) - 1
    onward = [costs_at(road, last)]
    for station in range(last - 1, -1, -1):
        onward.insert(0, costs_with_rest(costs_at(road, station), onward[0], road.grade))
    return onward


def costs_at(road, station):
    """By height: what the station alone costs, None where another height is told."""
    return [cost_at(road, station, height) for height in range(HIGHEST + 1)]


def cost_at(road, station, height):
    told = road.told[station]
    if told is not None and told != height:
        return None
    above = height - road.ground[station]
    if above > 0:
        return above * road.fill_price
    return -above * road.cut_price


def costs_with_rest(costs, rest, grade):
    """By height: a station's cost and the least of the rest that can follow it."""
    sums = []
    for height, cost in enumerate(costs):
        after = None if cost is None else best_step(rest, height, grade)
        sums.append(None if after is None else cost + rest[after])
    return sums


def best_step(costs, height, grade):
    """The next station's height that costs least, the lesser of like ones; None where none can follow."""
    best = None
    for after in range(max(0, height - grade), min(HIGHEST, height + grade) + 1):
        if costs[after] is not None and (best is None or costs[after] < costs[best]):
            best = after
    return best
