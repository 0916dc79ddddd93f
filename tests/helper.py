"""How the tests say calls and read answers, and a second way to find the cheapest line."""

from itertools import groupby

from linelaid.stations import answers

GREATEST = 4294967295
GREATEST_IN_ROW = 65535
NOT_BEGUN, NO_STATION, NONE_TOLD, AN_END, OUT_OF_RANGE, NO_LINE = -11, -2, -6, -16, -22, -33
NONE_TOO_FAR = -17


def begin(*ground):
    return [0, len(ground), *ground]


def ends(s, e):
    return [1, s, e]


def grade(k):
    return [2, k]


def price(c, f):
    return [3, c, f]


def ground(i, x):
    return [4, i, x]


def fix(i, x):
    return [5, i, x]


def free(i):
    return [6, i]


CAN, COST, LINE, EARTH = [7], [8], [9], [10]


def tried(*row):
    return [11, len(row), *row]


WHY, LEASTGRADE = [12], [13]


def ifgrade(k):
    return [14, k]


def between(i):
    return [15, i]


def through(i, x):
    return [16, i, x]


def worth(i):
    return [17, i]


STEEP, FLAT = [18], [19]


def station(i):
    return [20, i]


PROFILE, STATE = [21], [22]


def say(*calls):
    """The answers, a list for each call."""
    handed = [number for call in calls for number in call]
    before = list(handed)
    given = answers(handed)
    assert handed == before, "the list handed in was changed"
    told = split(given)
    assert len(told) == len(calls), (len(told), len(calls))
    return told


def split(given):
    told = []
    at = 0
    while at < len(given):
        count = given[at]
        assert count >= 1 and at + 1 + count <= len(given), (at, given[at:at + 20])
        told.append(given[at + 1:at + 1 + count])
        at += 1 + count
    for answer in told:
        assert all(isinstance(number, int) and not isinstance(number, bool) for number in answer), answer
        assert answer[0] >= 0 or len(answer) == 1, answer
        assert all(number >= 0 for number in answer[1:]), answer
    return told


def last(*calls):
    """The answer to the last of these calls."""
    return say(*calls)[-1]


def probe(stations):
    """Calls that between them tell all that is kept of a road with so many stations.

    What looking tells comes first, then what the changing calls tell of what was.
    """
    calls = [CAN, COST, LINE, EARTH, PROFILE, STATE, *[station(i) for i in range(stations)]]
    calls += [ends(0, 0), grade(0), price(1, 1)]
    calls += [ground(i, 0) for i in range(stations)]
    calls += [fix(i, 0) for i in range(1, stations - 1)]
    return calls


class Told:
    """What the tests know of a road, kept apart from the program."""

    def __init__(self, heights, grade=1, prices=(1, 1), fixed=()):
        self.ground = list(heights)
        self.grade = grade
        self.prices = prices
        self.fixed = {0: heights[0], len(heights) - 1: heights[-1], **dict(fixed)}

    def calls(self):
        end = len(self.ground) - 1
        inner = [fix(i, self.fixed[i]) for i in self.inner()]
        ends_told = ends(self.fixed[0], self.fixed[end])
        return [begin(*self.ground), ends_told, grade(self.grade), price(*self.prices), *inner]

    def cut(self, row):
        return sum(max(0, g - h) for g, h in zip(self.ground, row))

    def filled(self, row):
        return sum(max(0, h - g) for g, h in zip(self.ground, row))

    def cost(self, row):
        return self.cut(row) * self.prices[0] + self.filled(row) * self.prices[1]

    def is_line(self, row):
        if any(row[i] != x for i, x in self.fixed.items()):
            return False
        return all(abs(row[i] - row[i + 1]) <= self.grade for i in range(len(row) - 1))

    def lines(self):
        """Every line, the first one first: for few stations, or small grades."""
        rows = [[self.fixed[0]]]
        for i in range(1, len(self.ground)):
            heights = [self.fixed[i]] if i in self.fixed else range(41)
            rows = [row + [h] for row in rows for h in heights if abs(h - row[-1]) <= self.grade]
        return rows

    def cheapest(self):
        """The cheapest line, or None: from the first station on, with whole lines kept for each height."""
        best = {self.fixed[0]: (self.station_cost(0, self.fixed[0]), [self.fixed[0]])}
        for i in range(1, len(self.ground)):
            heights = [self.fixed[i]] if i in self.fixed else range(41)
            longer = {}
            for h in heights:
                reach = [best[b] for b in best if abs(b - h) <= self.grade]
                if reach:
                    cost, row = min(reach)
                    longer[h] = (cost + self.station_cost(i, h), row + [h])
            best = longer
        return min(best.values())[1] if best else None

    def station_cost(self, i, h):
        cut_price, fill_price = self.prices
        return max(0, self.ground[i] - h) * cut_price + max(0, h - self.ground[i]) * fill_price

    def too_far(self):
        """The stations of told heights too far off one another, the first two first."""
        told = sorted(self.fixed.items())
        return [(i, j) for i, x in told for j, y in told if i < j and abs(x - y) > self.grade * (j - i)]

    def but(self, grade=None, told=(), free=None):
        """The same road but for the grade, a height told or one not told."""
        fixed = {i: x for i, x in {**self.fixed, **dict(told)}.items() if i != free}
        other = Told(self.ground, self.grade if grade is None else grade, self.prices)
        other.fixed = fixed
        return other

    def least(self):
        """As cost answers."""
        best = self.cheapest()
        return NO_LINE if best is None else self.cost(best)

    def through(self, i, x):
        """What the cheapest line costs of those that have height x there."""
        return NO_LINE if self.fixed.get(i, x) != x else self.but(told={i: x}).least()

    def heights_at(self, i):
        """The heights that a line may have there, gone to from both ends step by step."""
        return sorted(self.reached(range(i + 1)) & self.reached(range(len(self.ground) - 1, i - 1, -1)))

    def reached(self, way):
        heights = None
        for i in way:
            allowed = {self.fixed[i]} if i in self.fixed else set(range(41))
            if heights is not None:
                allowed = {h for h in allowed if any(abs(h - b) <= self.grade for b in heights)}
            heights = allowed
        return heights

    def steep(self, row):
        starts = [i for i in range(len(row) - 1) if row[i + 1] - row[i] in (self.grade, -self.grade)]
        return [len(starts), *starts]

    def inner(self):
        """The told stations that are no ends."""
        return sorted(i for i in self.fixed if i not in (0, len(self.ground) - 1))


def flat(row):
    """How many stations the longest stretch of one height has, then where it begins."""
    stretches = [[i for i, h in stretch] for h, stretch in groupby(enumerate(row), lambda pair: pair[1])]
    best = max(stretches, key=len)
    return [len(best), best[0]]
