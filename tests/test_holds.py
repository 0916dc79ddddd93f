"""What holds of every road: a to f, on many roads made from fixed seeds."""

import random
import unittest

from tests.helper import (
    CAN, COST, EARTH, FLAT, LEASTGRADE, LINE, NO_LINE, NONE_TOO_FAR, PROFILE, STATE, STEEP, WHY, Told,
    begin, between, ends, fix, flat, free, grade, ground, ifgrade, last, price, probe, say, station, through, tried,
    worth,
)

SMALL = 150
MANY = 400


def small_road(source):
    """One whose lines are few enough to be walked through."""
    stations = source.randint(2, 5)
    base = source.choice((0, 1, 17, 38))
    heights = [base + source.randint(0, 2) for station in range(stations)]
    fixed = {i: base + source.randint(0, 2) for i in range(stations) if source.random() < 0.3}
    prices = (source.randint(1, 10), source.randint(1, 10)) if source.random() < 0.5 else (1, 1)
    return Told(heights, source.randint(0, 2), prices, fixed)


def steep_road(source):
    """One whose lines are few by any grade up to 40, as at most one height on it isn't told."""
    stations = source.randint(2, 5)
    top = source.choice((3, 12, 40))
    heights = [source.randint(0, top) for station in range(stations)]
    fixed = {i: source.randint(0, top) for i in range(stations)}
    if stations > 2:
        del fixed[source.randint(1, stations - 2)]
    prices = (source.randint(1, 10), source.randint(1, 10)) if source.random() < 0.5 else (1, 1)
    return Told(heights, source.randint(0, 10), prices, fixed)


def road(source):
    stations = source.randint(2, 12)
    top = source.choice((3, 10, 40))
    heights = [source.randint(0, top) for station in range(stations)]
    fixed = {i: source.randint(0, top) for i in range(stations) if source.random() < 0.15}
    prices = (source.randint(1, 10), source.randint(1, 10)) if source.random() < 0.5 else (1, 1)
    return Told(heights, source.randint(0, 10), prices, fixed)


def roads(make, seed, many):
    source = random.Random(seed)
    return [make(source) for turn in range(many)]


def least_of(told, lines):
    return min([told.cost(row) for row in lines], default=NO_LINE)


def asked(told, calls):
    """The answers to these calls on that road, however many they are."""
    found = []
    for start in range(0, len(calls), 200):
        found += say(*told.calls(), *calls[start:start + 200])[len(told.calls()):]
    return found


class WhatHolds(unittest.TestCase):
    def test_a_the_line_told_is_the_first_of_the_cheapest_of_all_lines(self):
        for told in roads(small_road, 1, SMALL):
            lines = told.lines()
            found = say(*told.calls(), CAN, COST, LINE, EARTH)[-4:]
            if not lines:
                self.assertEqual(found, [[0], [NO_LINE], [NO_LINE], [NO_LINE]], vars(told))
                continue
            best = min(lines, key=lambda row: (told.cost(row), row))
            self.assertEqual(
                found, [[1], [told.cost(best)], [len(best), *best], [told.cut(best), told.filled(best)]], vars(told))

    def test_a_the_same_on_roads_of_every_size(self):
        seen = {True: 0, False: 0}
        for told in roads(road, 2, MANY):
            best = told.cheapest()
            seen[best is None] += 1
            found = say(*told.calls(), CAN, COST, LINE, EARTH)[-4:]
            if best is None:
                self.assertEqual(found, [[0], [NO_LINE], [NO_LINE], [NO_LINE]], vars(told))
                continue
            self.assertTrue(told.is_line(best))
            self.assertEqual(
                found, [[1], [told.cost(best)], [len(best), *best], [told.cut(best), told.filled(best)]], vars(told))
            self.assertEqual(last(*told.calls(), tried(*best)), [told.cost(best), told.cut(best), told.filled(best)])
        self.assertGreater(min(seen.values()), MANY // 10)

    def test_a_steep_and_flat_are_of_the_first_of_the_cheapest_of_all_lines(self):
        for told in roads(small_road, 11, SMALL):
            lines = told.lines()
            found = asked(told, [STEEP, FLAT])
            if not lines:
                self.assertEqual(found, [[NO_LINE], [NO_LINE]], vars(told))
                continue
            best = min(lines, key=lambda row: (told.cost(row), row))
            self.assertEqual(found, [told.steep(best), flat(best)], (vars(told), best))

    def test_a_steep_and_flat_on_roads_of_every_size(self):
        for told in roads(road, 12, MANY):
            best = told.cheapest()
            due = [[NO_LINE], [NO_LINE]] if best is None else [told.steep(best), flat(best)]
            self.assertEqual(asked(told, [STEEP, FLAT]), due, vars(told))

    def test_a_every_row_tried_is_a_line_or_not(self):
        for told in roads(small_road, 3, SMALL):
            if len(told.ground) > 4:
                continue
            low = max(0, min(told.ground) - 1)
            rows = [[]]
            for station in told.ground:
                rows = [row + [h] for row in rows for h in range(low, min(40, low + 3) + 1)]
            calls = [tried(*row) for row in rows]
            for many in range(0, len(calls), 200):
                found = say(*told.calls(), *calls[many:many + 200])[len(told.calls()):]
                for row, answer in zip(rows[many:many + 200], found):
                    due = [told.cost(row), told.cut(row), told.filled(row)] if told.is_line(row) else [NO_LINE]
                    self.assertEqual(answer, due, (vars(told), row))

    def test_b_there_is_a_line_just_if_no_two_told_are_too_far(self):
        for told in roads(road, 4, MANY) + roads(small_road, 5, SMALL):
            self.assertEqual(last(*told.calls(), CAN), [0 if told.too_far() else 1], vars(told))

    def test_b_why_tells_none_too_far_just_if_there_is_a_line(self):
        seen = {True: 0, False: 0}
        for told in roads(small_road, 13, SMALL) + roads(steep_road, 14, SMALL):
            found = asked(told, [WHY, CAN])
            there_is = len(told.lines()) > 0
            seen[there_is] += 1
            self.assertEqual((found[0] == [NONE_TOO_FAR], found[1]), (there_is, [int(there_is)]), vars(told))
        self.assertGreater(min(seen.values()), SMALL // 10)

    def test_b_why_tells_the_first_two_too_far(self):
        for told in roads(road, 15, MANY) + roads(small_road, 16, SMALL):
            pairs = told.too_far()
            self.assertEqual(asked(told, [WHY]), [list(pairs[0]) if pairs else [NONE_TOO_FAR]], vars(told))

    def test_c_a_line_that_no_stretch_makes_cheaper_is_the_cheapest(self):
        for told in roads(small_road, 6, SMALL):
            least = last(*told.calls(), COST)[0]
            for row in told.lines():
                if not self.some_stretch_is_cheaper(told, row):
                    self.assertEqual(last(*told.calls(), tried(*row))[0], least, (vars(told), row))

    def some_stretch_is_cheaper(self, told, row):
        for start in range(len(row)):
            for end in range(start + 1, len(row) + 1):
                for by in (-1, 1):
                    moved = row[:start] + [h + by for h in row[start:end]] + row[end:]
                    if all(0 <= h <= 40 for h in moved) and told.is_line(moved) and told.cost(moved) < told.cost(row):
                        return True
        return False

    def test_d_a_line_may_lie_just_between_and_through_each_height_there(self):
        for told in roads(small_road, 17, SMALL // 3) + roads(steep_road, 18, SMALL // 3):
            lines = told.lines()
            for i in range(len(told.ground)):
                heights = {row[i] for row in lines}
                found = asked(told, [between(i), *[through(i, x) for x in range(41)]])
                due = [[least_of(told, [row for row in lines if row[i] == x])] for x in range(41)]
                self.assertEqual(found[1:], due, (vars(told), i))
                self.assertEqual(found[0], [min(heights), max(heights)] if lines else [NO_LINE], (vars(told), i))
                if lines:
                    self.assertEqual([x for x in range(41) if found[1 + x] != [NO_LINE]],
                                     list(range(found[0][0], found[0][1] + 1)), (vars(told), i))

    def test_d_between_on_roads_of_every_size(self):
        for told in roads(road, 19, MANY):
            for i, found in enumerate(asked(told, [between(i) for i in range(len(told.ground))])):
                heights = told.heights_at(i)
                if not heights:
                    self.assertEqual(found, [NO_LINE], (vars(told), i))
                    continue
                self.assertEqual(found, [heights[0], heights[-1]], (vars(told), i))
                self.assertEqual(heights, list(range(heights[0], heights[-1] + 1)), (vars(told), i))

    def test_d_through_on_roads_of_every_size(self):
        for told in roads(road, 20, 12):
            for i in range(len(told.ground)):
                found = asked(told, [through(i, x) for x in range(41)])
                self.assertEqual(found, [[told.through(i, x)] for x in range(41)], (vars(told), i))

    def test_d_the_least_of_through_is_the_cost(self):
        for told in roads(road, 21, MANY // 8):
            least = asked(told, [COST])[0]
            for i in range(len(told.ground)):
                found = asked(told, [through(i, x) for x in range(41)])
                costs = [answer[0] for answer in found if answer != [NO_LINE]]
                self.assertEqual([min(costs, default=NO_LINE)], least, (vars(told), i))

    def test_e_ifgrade_is_of_all_lines_by_that_grade(self):
        for told in roads(steep_road, 22, SMALL // 3):
            found = asked(told, [ifgrade(k) for k in range(41)])
            due = [[least_of(told, told.but(grade=k).lines())] for k in range(41)]
            self.assertEqual(found, due, vars(told))

    def test_e_ifgrade_on_roads_of_every_size(self):
        for told in roads(road, 23, MANY // 20):
            found = asked(told, [ifgrade(k) for k in range(41)])
            self.assertEqual(found, [[told.but(grade=k).least()] for k in range(41)], vars(told))

    def test_e_leastgrade_is_the_least_by_which_ifgrade_tells_a_cost(self):
        above = 0
        for told in roads(road, 24, MANY // 4) + roads(steep_road, 25, SMALL):
            found = asked(told, [LEASTGRADE, *[ifgrade(k) for k in range(41)]])
            least = found[0][0]
            above += least > 10
            self.assertEqual(
                [answer == [NO_LINE] for answer in found[1:]], [k < least for k in range(41)], (vars(told), least))
        self.assertGreater(above, SMALL // 10)

    def test_e_by_a_greater_grade_ifgrade_tells_no_greater_cost(self):
        for told in roads(road, 26, MANY // 8):
            found = asked(told, [ifgrade(k) for k in range(41)])
            costs = [answer[0] for answer in found if answer != [NO_LINE]]
            self.assertEqual(costs, sorted(costs, reverse=True), vars(told))
            self.assertEqual(found[told.grade], asked(told, [COST])[0], vars(told))

    def test_e_worth_is_of_all_lines(self):
        seen = {True: 0, False: 0}
        for told in roads(small_road, 27, SMALL):
            lines = told.lines()
            for i in told.inner():
                seen[bool(lines)] += 1
                least, would = least_of(told, lines), least_of(told, told.but(free=i).lines())
                due = [least - would, would] if lines else [NO_LINE]
                self.assertEqual(asked(told, [worth(i)]), [due], (vars(told), i))
        self.assertGreater(min(seen.values()), SMALL // 10)

    def test_e_worth_on_roads_of_every_size(self):
        greater = 0
        for told in roads(road, 28, MANY):
            for i in told.inner():
                least, would = told.least(), told.but(free=i).least()
                greater += least > would
                due = [NO_LINE] if least == NO_LINE else [least - would, would]
                self.assertEqual(asked(told, [worth(i)]), [due], (vars(told), i))
        self.assertGreater(greater, MANY // 10)

    def test_e_by_a_greater_grade_none_costs_more(self):
        for told in roads(road, 7, MANY // 4):
            calls = [call for k in range(11) for call in (grade(k), COST)]
            costs = [answer[0] for answer in say(*told.calls(), *calls)[len(told.calls()) + 1::2]]
            lines = [cost for cost in costs if cost != NO_LINE]
            self.assertEqual(lines, costs[len(costs) - len(lines):], vars(told))
            self.assertEqual(lines, sorted(lines, reverse=True), vars(told))

    def test_e_with_a_height_less_told_none_costs_more(self):
        for told in roads(road, 8, MANY):
            for i in told.fixed:
                if i in (0, len(told.ground) - 1):
                    continue
                before, was, after = say(*told.calls(), COST, free(i), COST)[-3:]
                self.assertEqual(was, [told.fixed[i]])
                if before != [NO_LINE]:
                    self.assertNotEqual(after, [NO_LINE])
                    self.assertLessEqual(after[0], before[0], vars(told))

    def test_f_what_is_refused_and_looking_changes_nothing(self):
        source = random.Random(9)
        for told in roads(road, 10, MANY // 4):
            many = len(told.ground)
            looks = [CAN, COST, LINE, EARTH, tried(*told.ground), WHY, LEASTGRADE, STEEP, FLAT, PROFILE, STATE]
            looks += [ifgrade(k) for k in (0, 3, 10, 11, 40)]
            for i in range(many):
                looks += [between(i), worth(i), station(i), through(i, source.randint(0, 40))]
            looks += [through(i, x) for i, x in told.fixed.items()]
            refused = [begin(*told.ground, 41), ends(41, 0), grade(11), price(0, 1), ground(many, 0), ground(0, 41)]
            refused += [fix(many, 0), fix(0, 0), fix(many - 1, 0), free(many), free(0), free(many - 1)]
            refused += [tried(41, *told.ground[1:]), ifgrade(41), between(many), through(many, 0), through(0, 41)]
            refused += [worth(many), worth(0), worth(many - 1), station(many)]
            between_them = looks + refused
            source.shuffle(between_them)
            as_it_was = say(*told.calls(), *probe(many))[len(told.calls()):]
            found = say(*told.calls(), *between_them, *probe(many))[len(told.calls()) + len(between_them):]
            self.assertEqual(found, as_it_was, vars(told))


if __name__ == "__main__":
    unittest.main()
