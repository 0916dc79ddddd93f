"""The interface: how calls are handed in and answers given back, the largest lists, and that nothing is kept."""

import random
import unittest

from linelaid import stations
from tests.helper import (
    AN_END, CAN, COST, EARTH, FLAT, GREATEST, GREATEST_IN_ROW, LEASTGRADE, LINE, NO_LINE, NO_STATION, NONE_TOLD,
    NONE_TOO_FAR, NOT_BEGUN, OUT_OF_RANGE, PROFILE, STATE, STEEP, WHY, Told, begin, between, ends, fix, flat, free,
    grade, ground, ifgrade, price, say, split, station, through, tried, worth,
)


class Form(unittest.TestCase):
    def test_each_answer_has_its_length_before_it(self):
        handed = [9, 0, 3, 4, 4, 4, 1, 4, 4, 2, 1, 3, 2, 3, 4, 1, 6, 5, 1, 5, 7, 8, 9, 10, 11, 3, 4, 5, 4, 6, 1, 8]
        self.assertEqual(
            stations.answers(handed),
            [1, -11, 1, 3, 2, 4, 4, 1, 1, 2, 1, 1, 1, 4, 1, 0, 1, 1, 1, 2, 4, 3, 4, 5, 4, 2, 1, 0, 3, 2, 1, 0, 1, 5,
             1, 2])

    def test_each_looking_answer_has_its_length_before_it(self):
        road = [0, 4, 5, 6, 4, 5, 5, 1, 6]
        begun = [1, 4, 1, 0]
        for call, answer in (
            ([12], [1, -17]), ([13], [1, 1]), ([14, 0], [1, -33]), ([14, 40], [1, 0]), ([15, 2], [2, 5, 6]),
            ([16, 2, 5], [1, 1]), ([16, 2, 4], [1, -33]), ([17, 1], [2, 0, 1]), ([18], [3, 2, 0, 1]), ([19], [2, 2, 2]),
            ([20, 1], [2, 6, 7]), ([20, 2], [2, 4, 0]), ([21], [5, 4, 5, 6, 4, 5]), ([22], [6, 0, 4, 1, 1, 1, 3]),
        ):
            # A call behind it shows that the next one is read from where it begins.
            self.assertEqual(stations.answers(road + call + [7]), begun + answer + [1, 1], call)
        self.assertEqual(stations.answers([0, 3, 0, 0, 3, 12, 18, 19, 15, 0]), [1, 3, 2, 0, 2, 1, -33, 1, -33, 1, -33])

    def test_empty_rows(self):
        self.assertEqual(stations.answers([0, 0]), [1, OUT_OF_RANGE])
        self.assertEqual(stations.answers([11, 0]), [1, NOT_BEGUN])
        self.assertEqual(stations.answers([0, 2, 5, 5, 11, 0, 0, 0, 7]), [1, 2, 1, OUT_OF_RANGE, 1, OUT_OF_RANGE, 1, 1])

    def test_numbers_in_a_row_are_not_taken_for_calls(self):
        handed = [0, 2, 0, 0, 11, 5, 0, 2, 9, 9, 7, 9]
        self.assertEqual(stations.answers(handed), [1, 2, 1, OUT_OF_RANGE, 3, 2, 0, 0])

    def test_gives_back_a_list_of_whole_numbers(self):
        looks = [12, 13, 14, 1, 15, 1, 16, 1, 2, 5, 1, 2, 17, 1, 18, 19, 20, 1, 21, 22]
        given = stations.answers([0, 3, 1, 2, 1, 7, 8, 9, 10, 11, 3, 1, 2, 1, *looks])
        self.assertIs(type(given), list)
        self.assertEqual({type(number) for number in given}, {int})


class NothingKept(unittest.TestCase):
    def test_what_is_handed_in_stays_and_twice_is_the_same(self):
        calls = [begin(4, 8, 6), ends(5, 9), grade(4), price(2, 3), ground(0, 9), fix(1, 7), LINE, PROFILE, STATE]
        calls += [WHY, LEASTGRADE, ifgrade(12), between(1), through(1, 7), worth(1), STEEP, FLAT, station(1), free(1)]
        calls += [EARTH, PROFILE, STATE]
        handed = [number for call in calls for number in call]
        before = list(handed)
        once = stations.answers(handed)
        self.assertEqual(handed, before)
        given = list(once)
        once.clear()
        self.assertEqual(stations.answers(handed), given)
        self.assertEqual(handed, before)

    def test_a_road_begun_before_is_not_begun_the_next_time(self):
        self.assertEqual(stations.answers([0, 2, 5, 5, 8]), [1, 2, 1, 0])
        self.assertEqual(stations.answers([8]), [1, NOT_BEGUN])


class Largest(unittest.TestCase):
    def test_256_calls_on_the_largest_road(self):
        calls = [begin(*[0, 40] * 6), grade(10), ends(0, 40)] + [COST, LINE, EARTH] * 84
        calls.append(CAN)
        self.assertEqual(len(calls), 256)
        told = say(*calls)
        road = Told([0, 40] * 6, 10)
        best = road.cheapest()
        self.assertEqual(told[3:6] * 84, told[3:255])
        self.assertEqual(told[3:6], [[road.cost(best)], [12, *best], [road.cut(best), road.filled(best)]])

    def test_each_looking_call_over_and_over_on_the_largest_road(self):
        ground_told = [0, 40] * 6
        road = Told(ground_told, 10, (10, 1), {0: 0, 3: 25, 6: 20, 11: 40})
        best = road.cheapest()
        freed = road.but(free=6).least()
        heights = road.heights_at(4)
        for call, due in (
            (WHY, [NONE_TOO_FAR]), (LEASTGRADE, [9]), (ifgrade(40), [road.but(grade=40).least()]),
            (ifgrade(9), [road.but(grade=9).least()]), (ifgrade(8), [NO_LINE]), (between(4), [heights[0], heights[-1]]),
            (through(4, 27), [road.through(4, 27)]), (worth(6), [road.cost(best) - freed, freed]),
            (STEEP, road.steep(best)), (FLAT, flat(best)), (station(6), [0, 21]), (PROFILE, [12, *ground_told]),
            (STATE, [0, 12, 10, 10, 1, 4]),
        ):
            many = 256 - len(road.calls())
            self.assertEqual(say(*road.calls(), *[call] * many)[len(road.calls()):], [due] * many, call)

    def test_all_of_twelve_told(self):
        calls = [begin(*[20] * 12), grade(10), *[fix(i, 20 + i % 2 * 10) for i in range(1, 11)]]
        calls += [WHY, LEASTGRADE, STATE, *[worth(i) for i in range(12)], *[between(i) for i in range(12)]]
        told = say(*calls)[12:]
        self.assertEqual(told[:3], [[NONE_TOO_FAR], [10], [0, 12, 10, 1, 1, 12]])
        inner = [[10 * (i % 2), 50 - 10 * (i % 2)] for i in range(1, 11)]
        self.assertEqual(told[3:15], [[AN_END], *inner, [AN_END]])
        self.assertEqual(told[15:], [[20 + i % 2 * 10] * 2 for i in range(11)] + [[20, 20]])

    def test_rows_of_29000(self):
        for number in (0, 40, GREATEST_IN_ROW):
            row = [number] * 29000
            self.assertEqual(say(begin(*row), CAN), [[OUT_OF_RANGE], [NOT_BEGUN]])
            self.assertEqual(say(begin(3, 3), tried(*row), CAN), [[2], [OUT_OF_RANGE], [1]])

    def test_30000_numbers_in_256_calls(self):
        calls = [begin(*range(12))] + [tried(*[GREATEST_IN_ROW] * 115)] * 254
        used = sum(len(call) for call in calls)
        calls.append(tried(*[0] * (30000 - used - 2)))
        self.assertEqual((sum(len(call) for call in calls), len(calls)), (30000, 256))
        self.assertEqual(say(*calls), [[12]] + [[OUT_OF_RANGE]] * 255)

    def test_256_begins(self):
        self.assertEqual(say(*[begin(*[40] * 12)] * 256), [[12]] * 256)

    def test_the_greatest_numbers(self):
        wrong = [
            ends(GREATEST, GREATEST), grade(GREATEST), price(GREATEST, GREATEST), ground(GREATEST, GREATEST),
            ground(1, GREATEST), fix(GREATEST, GREATEST), fix(0, GREATEST), fix(1, GREATEST), free(GREATEST),
            tried(*[GREATEST_IN_ROW] * 3), begin(*[GREATEST_IN_ROW] * 3),
            ifgrade(GREATEST), between(GREATEST), through(GREATEST, GREATEST), through(0, GREATEST), worth(GREATEST),
            station(GREATEST),
        ]
        self.assertEqual(say(begin(1, 2, 1), *wrong, LINE), [
            [3], [OUT_OF_RANGE], [OUT_OF_RANGE], [OUT_OF_RANGE], [NO_STATION], [OUT_OF_RANGE], [NO_STATION], [AN_END],
            [OUT_OF_RANGE], [NO_STATION], [OUT_OF_RANGE], [OUT_OF_RANGE], [OUT_OF_RANGE], [NO_STATION], [NO_STATION],
            [OUT_OF_RANGE], [NO_STATION], [NO_STATION], [3, 1, 2, 1],
        ])


NAMES = (
    "begin", "ends", "grade", "price", "ground", "fix", "free", "can", "cost", "line", "earth", "tried", "why",
    "leastgrade", "ifgrade", "between", "through", "worth", "steep", "flat", "station", "profile", "state",
)


class Model:
    """The calls told once more, as plainly as can be, over the tests' own way to the cheapest line."""

    def __init__(self):
        self.road = None

    def answer(self, call):
        number, given = call[0], call[1:]
        if number == 0:
            return self.begin(given[1:])
        if self.road is None:
            return [NOT_BEGUN]
        if number == 11:
            return self.tried(given[1:])
        return getattr(self, NAMES[number])(*given)

    def begin(self, heights):
        if not 2 <= len(heights) <= 12 or max(heights) > 40:
            return [OUT_OF_RANGE]
        self.road = Told(heights)
        return [len(heights)]

    def ends(self, s, e):
        if max(s, e) > 40:
            return [OUT_OF_RANGE]
        end = len(self.road.ground) - 1
        was = [self.road.fixed[0], self.road.fixed[end]]
        self.road.fixed.update({0: s, end: e})
        return was

    def grade(self, k):
        if k > 10:
            return [OUT_OF_RANGE]
        was, self.road.grade = self.road.grade, k
        return [was]

    def price(self, c, f):
        if not (1 <= c <= 10 and 1 <= f <= 10):
            return [OUT_OF_RANGE]
        was, self.road.prices = self.road.prices, (c, f)
        return list(was)

    def ground(self, i, x):
        if i >= len(self.road.ground):
            return [NO_STATION]
        if x > 40:
            return [OUT_OF_RANGE]
        was, self.road.ground[i] = self.road.ground[i], x
        return [was]

    def station_refused(self, i):
        if i >= len(self.road.ground):
            return [NO_STATION]
        return [AN_END] if i in (0, len(self.road.ground) - 1) else None

    def fix(self, i, x):
        refused = self.station_refused(i) or ([OUT_OF_RANGE] if x > 40 else None)
        if refused:
            return refused
        was = self.road.fixed.get(i, -1)
        self.road.fixed[i] = x
        return [was + 1]

    def free(self, i):
        refused = self.station_refused(i) or ([NONE_TOLD] if i not in self.road.fixed else None)
        return refused or [self.road.fixed.pop(i)]

    def can(self):
        return [int(not self.road.too_far())]

    def cost(self):
        best = self.road.cheapest()
        return [NO_LINE] if best is None else [self.road.cost(best)]

    def line(self):
        best = self.road.cheapest()
        return [NO_LINE] if best is None else [len(best), *best]

    def earth(self):
        best = self.road.cheapest()
        return [NO_LINE] if best is None else [self.road.cut(best), self.road.filled(best)]

    def tried(self, row):
        if len(row) != len(self.road.ground) or max(row) > 40:
            return [OUT_OF_RANGE]
        if not self.road.is_line(row):
            return [NO_LINE]
        return [self.road.cost(row), self.road.cut(row), self.road.filled(row)]


    def why(self):
        pairs = self.road.too_far()
        return list(pairs[0]) if pairs else [NONE_TOO_FAR]

    def leastgrade(self):
        return [min(k for k in range(41) if not self.road.but(grade=k).too_far())]

    def ifgrade(self, k):
        return [OUT_OF_RANGE] if k > 40 else [self.road.but(grade=k).least()]

    def between(self, i):
        if i >= len(self.road.ground):
            return [NO_STATION]
        heights = self.road.heights_at(i)
        return [heights[0], heights[-1]] if heights else [NO_LINE]

    def through(self, i, x):
        if i >= len(self.road.ground):
            return [NO_STATION]
        return [OUT_OF_RANGE] if x > 40 else [self.road.through(i, x)]

    def worth(self, i):
        refused = self.station_refused(i) or ([NONE_TOLD] if i not in self.road.fixed else None)
        if refused:
            return refused
        least, would = self.road.least(), self.road.but(free=i).least()
        return [NO_LINE] if least == NO_LINE else [least - would, would]

    def steep(self):
        best = self.road.cheapest()
        return [NO_LINE] if best is None else self.road.steep(best)

    def flat(self):
        best = self.road.cheapest()
        return [NO_LINE] if best is None else flat(best)

    def station(self, i):
        if i >= len(self.road.ground):
            return [NO_STATION]
        return [self.road.ground[i], self.road.fixed.get(i, -1) + 1]

    def profile(self):
        return [len(self.road.ground), *self.road.ground]

    def state(self):
        return [0, len(self.road.ground), self.road.grade, *self.road.prices, len(self.road.fixed)]


def some_call(source, model):
    many = len(model.road.ground) if model.road else 3
    i = source.choice([source.randint(0, many), source.randint(0, many), many - 1, 0, GREATEST])
    x = source.choice([source.randint(0, 6), source.randint(0, 6), source.randint(0, 6), 0, 40, 41, GREATEST])
    y = source.choice([source.randint(0, 6), source.randint(0, 6), 40, 41])
    row = [source.randint(0, 6) for station in range(source.choice([many, many, many - 1, 13]))]
    if model.road and source.random() < 0.7:
        row = model.road.cheapest() or row
    chance = source.random()
    if chance < 0.04:
        return begin(*[source.choice((0, 3, 5, 6, 40 + (source.random() < 0.1))) for s in range(source.randint(0, 13))])
    others = [
        ends(x, y), grade(source.choice([0, 1, 1, 2, 3, 10, 11])), price(source.randint(0, 11), source.randint(0, 11)),
        ground(i, x), fix(i, x), fix(i, y), free(i), free(i), free(i), CAN, COST, LINE, EARTH, tried(*row), WHY,
        LEASTGRADE, ifgrade(source.choice([0, 1, 2, 5, 10, 11, 39, 40, 41, GREATEST])), between(i), through(i, x),
        worth(i), STEEP, FLAT, station(i), PROFILE, STATE, *calls_at_told(source, model),
    ]
    return source.choice(others)


def calls_at_told(source, model):
    """Calls that keep a line where there is one, and ask at stations where a height is told."""
    if not model.road or len(model.road.ground) < 3:
        return []
    calls = [worth(i) for i in source.sample(model.road.inner(), min(2, len(model.road.inner())))]
    best = model.road.cheapest()
    if best is None:
        return calls + [free(i) for i in model.road.inner()] + [ends(x, x) for x in (3, 5)]
    i = source.randint(1, len(best) - 2)
    return calls + [call(i, max(0, best[i] + by)) for by in (-1, 0, 1) for call in (fix, through)]


class LongRuns(unittest.TestCase):
    def test_every_answer_is_the_one_told(self):
        seen = {}
        for seed in range(60):
            source = random.Random(seed)
            model = Model()
            calls, due = [], []
            for turn in range(256):
                call = some_call(source, model)
                if turn == 3:
                    call = begin(*[source.randint(0, 6) for s in range(1 + seed % 12)])
                calls.append(call)
                due.append(model.answer(call))
                key = (call[0], min(due[-1][0], 0))
                seen[key] = seen.get(key, 0) + 1
            handed = [number for call in calls for number in call]
            given = split(stations.answers(handed))
            for at, call in enumerate(calls):
                self.assertEqual(given[at], due[at], (seed, at, call))
            self.assertEqual(len(given), len(due))
        for key in ((0, 0), (0, -22), (1, 0), (1, -22), (2, 0), (2, -22), (3, 0), (3, -22), (4, 0), (4, -2), (4, -22),
                    (5, 0), (5, -2), (5, -16), (5, -22), (6, 0), (6, -2), (6, -16), (6, -6), (7, 0), (8, 0), (8, -33),
                    (9, 0), (9, -33), (10, 0), (10, -33), (11, 0), (11, -22), (11, -33), (12, 0), (12, -17), (13, 0),
                    (14, 0), (14, -22), (14, -33), (15, 0), (15, -2), (15, -33), (16, 0), (16, -2), (16, -22),
                    (16, -33), (17, 0), (17, -2), (17, -16), (17, -6), (17, -33), (18, 0), (18, -33), (19, 0),
                    (19, -33), (20, 0), (20, -2), (21, 0), (22, 0)):
            self.assertGreater(seen.get(key, 0), 5, key)


if __name__ == "__main__":
    unittest.main()
