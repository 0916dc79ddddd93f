"""How the tests say calls and read answers, and a second way to find the cheapest line."""

from itertools import product

from linelaid.stations import answers

GREATEST = 4294967295
GREATEST_IN_ROW = 65535
NOT_BEGUN, NO_STATION, NONE_TOLD, AN_END, OUT_OF_RANGE, NO_LINE = -11, -2, -6, -16, -22, -33


def begin(*ground):
    return [0, len(ground), *ground]


def ends(s, e):
    return [1, s, e]


def grade(k):
    return [2, k]


def price(c, f):
    return [3, c, f]


def ground(i, x):
    return [4, i, x]


def fix(i, x):
    return [5, i, x]


def free(i):
    return [6, i]


CAN, COST, LINE, EARTH = [7], [8], [9], [10]


def tried(*row):
    return [11, len(row), *row]


def say(*calls):
    """The answers, a list for each call."""
    handed = [number for call in calls for number in call]
    before = list(handed)
    given = answers(handed)
    assert handed == before, "the list handed in was changed"
    told = split(given)
    assert len(told) == len(calls), (len(told), len(calls))
    return told


def split(given):
    told = []
    at = 0
    while at < len(given):
        count = given[at]
        assert count >= 1 and at + 1 + count <= len(given), (at, given[at:at + 20])
        told.append(given[at + 1:at + 1 + count])
        at += 1 + count
    for answer in told:
        assert all(isinstance(number, int) and not isinstance(number, bool) for number in answer), answer
        assert answer[0] >= 0 or len(answer) == 1, answer
        assert all(number >= 0 for number in answer[1:]), answer
    return told


def last(*calls):
    """The answer to the last of these calls."""
    return say(*calls)[-1]


def probe(stations):
    """Calls that between them tell all that is kept of a road with so many stations."""
    calls = [CAN, COST, LINE, EARTH, ends(0, 0), grade(0), price(1, 1)]
    calls += [ground(i, 0) for i in range(stations)]
    calls += [fix(i, 0) for i in range(1, stations - 1)]
    return calls


class Told:
    """What the tests know of a road, kept apart from the program."""

    def __init__(self, heights, grade=1, prices=(1, 1), fixed=()):
        self.ground = list(heights)
        self.grade = grade
        self.prices = prices
        self.fixed = {0: heights[0], len(heights) - 1: heights[-1], **dict(fixed)}

    def calls(self):
        end = len(self.ground) - 1
        inner = [fix(i, x) for i, x in sorted(self.fixed.items()) if i not in (0, end)]
        ends_told = ends(self.fixed[0], self.fixed[end])
        return [begin(*self.ground), ends_told, grade(self.grade), price(*self.prices), *inner]

    def cut(self, row):
        return sum(max(0, g - h) for g, h in zip(self.ground, row))

    def filled(self, row):
        return sum(max(0, h - g) for g, h in zip(self.ground, row))

    def cost(self, row):
        return self.cut(row) * self.prices[0] + self.filled(row) * self.prices[1]

    def is_line(self, row):
        if any(row[i] != x for i, x in self.fixed.items()):
            return False
        return all(abs(row[i] - row[i + 1]) <= self.grade for i in range(len(row) - 1))

    def lines(self):
        """Every line, the first one first: slow, so for few stations and small grades."""
        start = self.fixed[0]
        steps = range(-self.grade, self.grade + 1)
        found = []
        for walk in product(steps, repeat=len(self.ground) - 1):
            row = [start]
            for step in walk:
                row.append(row[-1] + step)
            if all(0 <= h <= 40 for h in row) and self.is_line(row):
                found.append(row)
        return found

    def cheapest(self):
        """The cheapest line, or None: from the first station on, with whole lines kept for each height."""
        best = {self.fixed[0]: (self.station_cost(0, self.fixed[0]), [self.fixed[0]])}
        for i in range(1, len(self.ground)):
            heights = [self.fixed[i]] if i in self.fixed else range(41)
            longer = {}
            for h in heights:
                reach = [best[b] for b in best if abs(b - h) <= self.grade]
                if reach:
                    cost, row = min(reach)
                    longer[h] = (cost + self.station_cost(i, h), row + [h])
            best = longer
        return min(best.values())[1] if best else None

    def station_cost(self, i, h):
        cut_price, fill_price = self.prices
        return max(0, self.ground[i] - h) * cut_price + max(0, h - self.ground[i]) * fill_price

    def too_far(self):
        told = sorted(self.fixed.items())
        return any(abs(x - y) > self.grade * (j - i) for i, x in told for j, y in told if i < j)
