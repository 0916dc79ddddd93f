"""What holds of every road: a, b, c, e and f, on many roads made from fixed seeds."""

import random
import unittest

from tests.helper import (
    CAN, COST, EARTH, LINE, NO_LINE, Told,
    begin, ends, fix, free, grade, ground, last, price, probe, say, tried,
)

SMALL = 150
MANY = 400


def small_road(source):
    """One whose lines are few enough to be walked through."""
    stations = source.randint(2, 5)
    base = source.choice((0, 1, 17, 38))
    heights = [base + source.randint(0, 2) for station in range(stations)]
    fixed = {i: base + source.randint(0, 2) for i in range(stations) if source.random() < 0.3}
    prices = (source.randint(1, 10), source.randint(1, 10)) if source.random() < 0.5 else (1, 1)
    return Told(heights, source.randint(0, 2), prices, fixed)


def road(source):
    stations = source.randint(2, 12)
    top = source.choice((3, 10, 40))
    heights = [source.randint(0, top) for station in range(stations)]
    fixed = {i: source.randint(0, top) for i in range(stations) if source.random() < 0.15}
    prices = (source.randint(1, 10), source.randint(1, 10)) if source.random() < 0.5 else (1, 1)
    return Told(heights, source.randint(0, 10), prices, fixed)


def roads(make, seed, many):
    source = random.Random(seed)
    return [make(source) for turn in range(many)]


class WhatHolds(unittest.TestCase):
    def test_a_the_line_told_is_the_first_of_the_cheapest_of_all_lines(self):
        for told in roads(small_road, 1, SMALL):
            lines = told.lines()
            found = say(*told.calls(), CAN, COST, LINE, EARTH)[-4:]
            if not lines:
                self.assertEqual(found, [[0], [NO_LINE], [NO_LINE], [NO_LINE]], vars(told))
                continue
            best = min(lines, key=lambda row: (told.cost(row), row))
            self.assertEqual(
                found, [[1], [told.cost(best)], [len(best), *best], [told.cut(best), told.filled(best)]], vars(told))

    def test_a_the_same_on_roads_of_every_size(self):
        seen = {True: 0, False: 0}
        for told in roads(road, 2, MANY):
            best = told.cheapest()
            seen[best is None] += 1
            found = say(*told.calls(), CAN, COST, LINE, EARTH)[-4:]
            if best is None:
                self.assertEqual(found, [[0], [NO_LINE], [NO_LINE], [NO_LINE]], vars(told))
                continue
            self.assertTrue(told.is_line(best))
            self.assertEqual(
                found, [[1], [told.cost(best)], [len(best), *best], [told.cut(best), told.filled(best)]], vars(told))
            self.assertEqual(last(*told.calls(), tried(*best)), [told.cost(best), told.cut(best), told.filled(best)])
        self.assertGreater(min(seen.values()), MANY // 10)

    def test_a_every_row_tried_is_a_line_or_not(self):
        for told in roads(small_road, 3, SMALL):
            if len(told.ground) > 4:
                continue
            low = max(0, min(told.ground) - 1)
            rows = [[]]
            for station in told.ground:
                rows = [row + [h] for row in rows for h in range(low, min(40, low + 3) + 1)]
            calls = [tried(*row) for row in rows]
            for many in range(0, len(calls), 200):
                found = say(*told.calls(), *calls[many:many + 200])[len(told.calls()):]
                for row, answer in zip(rows[many:many + 200], found):
                    due = [told.cost(row), told.cut(row), told.filled(row)] if told.is_line(row) else [NO_LINE]
                    self.assertEqual(answer, due, (vars(told), row))

    def test_b_there_is_a_line_just_if_no_two_told_are_too_far(self):
        for told in roads(road, 4, MANY) + roads(small_road, 5, SMALL):
            self.assertEqual(last(*told.calls(), CAN), [0 if told.too_far() else 1], vars(told))

    def test_c_a_line_that_no_stretch_makes_cheaper_is_the_cheapest(self):
        for told in roads(small_road, 6, SMALL):
            least = last(*told.calls(), COST)[0]
            for row in told.lines():
                if not self.some_stretch_is_cheaper(told, row):
                    self.assertEqual(last(*told.calls(), tried(*row))[0], least, (vars(told), row))

    def some_stretch_is_cheaper(self, told, row):
        for start in range(len(row)):
            for end in range(start + 1, len(row) + 1):
                for by in (-1, 1):
                    moved = row[:start] + [h + by for h in row[start:end]] + row[end:]
                    if all(0 <= h <= 40 for h in moved) and told.is_line(moved) and told.cost(moved) < told.cost(row):
                        return True
        return False

    def test_e_by_a_greater_grade_none_costs_more(self):
        for told in roads(road, 7, MANY // 4):
            calls = [call for k in range(11) for call in (grade(k), COST)]
            costs = [answer[0] for answer in say(*told.calls(), *calls)[len(told.calls()) + 1::2]]
            lines = [cost for cost in costs if cost != NO_LINE]
            self.assertEqual(lines, costs[len(costs) - len(lines):], vars(told))
            self.assertEqual(lines, sorted(lines, reverse=True), vars(told))

    def test_e_with_a_height_less_told_none_costs_more(self):
        for told in roads(road, 8, MANY):
            for i in told.fixed:
                if i in (0, len(told.ground) - 1):
                    continue
                before, was, after = say(*told.calls(), COST, free(i), COST)[-3:]
                self.assertEqual(was, [told.fixed[i]])
                if before != [NO_LINE]:
                    self.assertNotEqual(after, [NO_LINE])
                    self.assertLessEqual(after[0], before[0], vars(told))

    def test_f_what_is_refused_and_looking_changes_nothing(self):
        source = random.Random(9)
        for told in roads(road, 10, MANY // 4):
            many = len(told.ground)
            between = [CAN, COST, LINE, EARTH, tried(*told.ground), begin(*told.ground, 41), ends(41, 0), grade(11)]
            between += [price(0, 1), ground(many, 0), ground(0, 41), fix(many, 0), fix(0, 0), fix(many - 1, 0)]
            between += [free(many), free(0), free(many - 1), tried(41, *told.ground[1:])]
            source.shuffle(between)
            as_it_was = say(*told.calls(), *probe(many))[len(told.calls()):]
            found = say(*told.calls(), *between, *probe(many))[len(told.calls()) + len(between):]
            self.assertEqual(found, as_it_was, vars(told))


if __name__ == "__main__":
    unittest.main()
