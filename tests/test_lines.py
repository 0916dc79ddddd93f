"""Promise 2: can, cost, line, earth, try, steep, flat, and the edges that the document names."""

import unittest

from tests.helper import (
    CAN, COST, EARTH, FLAT, GREATEST_IN_ROW, LINE, NO_LINE, OUT_OF_RANGE, STEEP,
    begin, ends, fix, free, grade, last, price, probe, say, tried,
)

LOOKS = [CAN, COST, LINE, EARTH]
NONE_AT_ALL = [[0], [NO_LINE], [NO_LINE], [NO_LINE]]


def looks(*calls):
    return say(*calls, *LOOKS)[len(calls):]


class Looking(unittest.TestCase):
    def test_a_line_on_the_ground_costs_nothing(self):
        self.assertEqual(looks(begin(3, 4, 5, 4)), [[1], [0], [4, 3, 4, 5, 4], [0, 0]])

    def test_a_line_that_cuts_and_fills(self):
        # The second station is cut by 2, the fourth filled by 4.
        self.assertEqual(
            looks(begin(5, 8, 5, 0, 5), price(3, 7)), [[1], [2 * 3 + 4 * 7], [5, 5, 6, 5, 4, 5], [2, 4]])

    def test_with_no_line_all_but_can_are_refused(self):
        self.assertEqual(looks(begin(0, 0, 3)), NONE_AT_ALL)

    def test_looking_changes_nothing(self):
        for calls in ([begin(4, 8, 6, 7), grade(3), price(2, 9), fix(1, 6)], [begin(4, 8, 6, 7), grade(0)]):
            as_it_was = say(*calls, *probe(4))[len(calls):]
            for look in [*LOOKS, STEEP, FLAT, tried(4, 6, 6, 7), tried(0, 0, 0, 0), tried(1)]:
                self.assertEqual(say(*calls, look, look, *probe(4))[len(calls) + 2:], as_it_was)


class Tried(unittest.TestCase):
    ROAD = [begin(5, 8, 5, 0, 5), price(3, 7)]

    def test_answers_cost_cut_filled(self):
        self.assertEqual(last(*self.ROAD, tried(5, 6, 5, 4, 5)), [34, 2, 4])
        self.assertEqual(last(*self.ROAD, tried(5, 5, 5, 5, 5)), [3 * 3 + 5 * 7, 3, 5])
        self.assertEqual(last(*self.ROAD, tried(5, 4, 4, 4, 5)), [5 * 3 + 4 * 7, 5, 4])

    def test_need_not_be_the_cheapest(self):
        self.assertEqual(say(begin(4, 4, 4), tried(4, 5, 4), tried(4, 3, 4))[1:], [[1, 0, 1], [1, 1, 0]])

    def test_refuses_another_length(self):
        for row in ([], [5], [5, 6, 5, 4], [5, 6, 5, 4, 5, 5], [5] * 29000):
            self.assertEqual(last(*self.ROAD, tried(*row)), [OUT_OF_RANGE])

    def test_refuses_what_is_no_height(self):
        for height in (41, GREATEST_IN_ROW):
            for at in range(5):
                row = [5, 6, 5, 4, 5]
                row[at] = height
                self.assertEqual(last(*self.ROAD, tried(*row)), [OUT_OF_RANGE])

    def test_out_of_range_goes_before_no_line(self):
        self.assertEqual(last(*self.ROAD, tried(0, 40, 0, 41, 0)), [OUT_OF_RANGE])
        self.assertEqual(last(begin(0, 40), tried(0, 0, 0)), [OUT_OF_RANGE])
        self.assertEqual(last(begin(0, 40), tried(0, 41)), [OUT_OF_RANGE])

    def test_is_no_line_off_the_ends(self):
        self.assertEqual(last(*self.ROAD, tried(4, 5, 5, 5, 5)), [NO_LINE])
        self.assertEqual(last(*self.ROAD, tried(5, 5, 5, 5, 4)), [NO_LINE])

    def test_is_no_line_off_a_told_height(self):
        told = say(*self.ROAD, fix(2, 6), tried(5, 5, 5, 5, 5), tried(5, 5, 6, 5, 5), free(2), tried(5, 5, 5, 5, 5))
        self.assertEqual(told[3:], [[NO_LINE], [51, 3, 6], [6], [44, 3, 5]])

    def test_is_no_line_where_any_step_is_too_steep(self):
        for grade_told in (0, 1, 4):
            for step in range(3):
                for way in (-1, 1):
                    row = [20 + way * (grade_told + 1) * (at > step) for at in range(4)]
                    calls = [begin(*row), grade(grade_told)]
                    self.assertEqual(last(*calls, tried(*row)), [NO_LINE], row)
                    self.assertEqual(last(*calls, grade(grade_told + 1), tried(*row)), [0, 0, 0], row)

    def test_is_refused_where_there_is_no_line_at_all(self):
        self.assertEqual(last(begin(0, 0, 3), tried(0, 0, 3)), [NO_LINE])


class Steep(unittest.TestCase):
    def test_answers_how_many_steps_then_from_which_stations(self):
        self.assertEqual(last(begin(3, 4, 4, 5, 4), STEEP), [3, 0, 2, 3])
        self.assertEqual(last(begin(5, 8, 5, 0, 5), STEEP), [4, 0, 1, 2, 3])

    def test_rising_and_falling_both_count(self):
        self.assertEqual(last(begin(3, 4, 4, 4), STEEP), [1, 0])
        self.assertEqual(last(begin(4, 3, 3, 3), STEEP), [1, 0])

    def test_lesser_steps_do_not_count(self):
        self.assertEqual(last(begin(3, 4, 6, 4, 4), grade(2), STEEP), [2, 1, 2])
        self.assertEqual(last(begin(3, 4, 6, 4, 4), grade(3), STEEP), [0])
        self.assertEqual(last(begin(0, 10, 0, 9), grade(10), STEEP), [2, 0, 1])

    def test_none_is_0_alone(self):
        self.assertEqual(last(begin(4, 4, 4), STEEP), [0])

    def test_is_of_the_line_and_not_of_the_ground(self):
        self.assertEqual(last(begin(4, 4, 4, 4, 4), fix(2, 6), STEEP), [4, 0, 1, 2, 3])
        self.assertEqual(last(begin(5, 6, 5, 4), ends(5, 5), fix(1, 5), fix(2, 5), STEEP), [0])

    def test_is_of_the_first_of_two_lines_alike(self):
        # 5 5 4 5 and 5 6 5 5 cost alike.
        self.assertEqual(last(begin(5, 6, 4, 5), STEEP), [2, 1, 2])
        self.assertEqual(last(begin(5, 6, 4, 5), price(2, 1), STEEP), [2, 0, 1])

    def test_by_a_grade_of_0_every_step_counts(self):
        self.assertEqual(last(begin(5, 9, 2, 5), grade(0), STEEP), [3, 0, 1, 2])
        self.assertEqual(last(begin(5, 5), grade(0), STEEP), [1, 0])

    def test_two_stations(self):
        self.assertEqual(say(begin(7, 8), STEEP, grade(2), STEEP)[1::2], [[1, 0], [0]])

    def test_the_last_step(self):
        self.assertEqual(last(begin(5, 5, 5, 6), STEEP), [1, 2])
        self.assertEqual(last(begin(5, 5, 5, 4), STEEP), [1, 2])

    def test_from_0_to_40(self):
        self.assertEqual(last(begin(0, 10, 20, 30, 40), grade(10), STEEP), [4, 0, 1, 2, 3])

    def test_of_twelve_stations_at_most_eleven(self):
        self.assertEqual(last(begin(*range(12)), STEEP), [11, *range(11)])

    def test_refuses_where_there_is_no_line(self):
        self.assertEqual(say(begin(0, 0, 3), STEEP, grade(0), STEEP)[1::2], [[NO_LINE]] * 2)


class Flat(unittest.TestCase):
    def test_answers_how_many_stations_then_where_they_begin(self):
        self.assertEqual(last(begin(3, 4, 4, 5, 4), FLAT), [2, 1])
        self.assertEqual(last(begin(4, 5, 5, 5, 4, 4), FLAT), [3, 1])

    def test_of_like_ones_the_first(self):
        self.assertEqual(last(begin(4, 4, 5, 5, 6, 6), FLAT), [2, 0])
        self.assertEqual(last(begin(3, 4, 4, 5, 5), FLAT), [2, 1])

    def test_a_longer_one_later(self):
        self.assertEqual(last(begin(4, 4, 5, 5, 5), FLAT), [3, 2])
        self.assertEqual(last(begin(4, 4, 5, 5, 5, 6, 6), FLAT), [3, 2])

    def test_a_height_that_comes_back_begins_another(self):
        self.assertEqual(last(begin(4, 5, 4, 5, 4), FLAT), [1, 0])
        self.assertEqual(last(begin(4, 4, 5, 4, 4, 4), FLAT), [3, 3])
        self.assertEqual(last(begin(4, 4, 5, 4, 4), FLAT), [2, 0])

    def test_where_all_differ_it_is_the_first_station(self):
        self.assertEqual(last(begin(3, 4, 5, 6), FLAT), [1, 0])

    def test_is_of_the_line_and_not_of_the_ground(self):
        self.assertEqual(last(begin(4, 4, 4, 4, 4), fix(2, 6), FLAT), [1, 0])
        self.assertEqual(last(begin(4, 9, 0, 4), grade(0), FLAT), [4, 0])

    def test_is_of_the_first_of_two_lines_alike(self):
        # 5 5 4 5 and 5 6 5 5 cost alike.
        self.assertEqual(last(begin(5, 6, 4, 5), FLAT), [2, 0])
        self.assertEqual(last(begin(5, 6, 4, 5), price(2, 1), FLAT), [2, 2])

    def test_two_stations(self):
        self.assertEqual(say(begin(7, 8), FLAT, begin(7, 7), FLAT)[1::2], [[1, 0], [2, 0]])

    def test_the_last_step(self):
        self.assertEqual(last(begin(3, 4, 5, 5), FLAT), [2, 2])
        self.assertEqual(last(begin(5, 5, 5, 6), FLAT), [3, 0])

    def test_all_of_twelve_stations(self):
        for height in (0, 40):
            self.assertEqual(last(begin(*[height] * 12), FLAT), [12, 0])

    def test_refuses_where_there_is_no_line(self):
        self.assertEqual(say(begin(0, 0, 3), FLAT, grade(0), FLAT)[1::2], [[NO_LINE]] * 2)


class Edges(unittest.TestCase):
    def test_two_stations(self):
        self.assertEqual(looks(begin(7, 8)), [[1], [0], [2, 7, 8], [0, 0]])
        self.assertEqual(looks(begin(7, 9)), NONE_AT_ALL)
        self.assertEqual(looks(begin(9, 7)), NONE_AT_ALL)
        self.assertEqual(looks(begin(7, 9), ends(8, 8), price(2, 3)), [[1], [3 + 2], [2, 8, 8], [1, 1]])
        self.assertEqual(say(begin(7, 8), tried(7, 8), tried(8, 7))[1:], [[0, 0, 0], [NO_LINE]])

    def test_a_grade_of_0(self):
        self.assertEqual(looks(begin(5, 9, 2, 5), grade(0)), [[1], [7], [4, 5, 5, 5, 5], [4, 3]])
        self.assertEqual(looks(begin(5, 5, 5, 6), grade(0)), NONE_AT_ALL)
        self.assertEqual(looks(begin(5, 5, 5, 5), grade(0), fix(1, 4)), NONE_AT_ALL)
        self.assertEqual(looks(begin(5, 5), grade(0)), [[1], [0], [2, 5, 5], [0, 0]])

    def test_told_heights_that_just_can_be_joined_and_that_just_cannot(self):
        for k in range(11):
            for steps in range(1, 4):
                for low in (0, 40 - min(40, k * steps)):
                    flat = [low] * (steps + 1)
                    self.assert_joined(flat, k, low, low + k * steps)
                    self.assert_joined(flat, k, low + k * steps, low)

    def assert_joined(self, flat, k, s, e):
        if max(s, e) > 40:
            return
        steps = len(flat) - 1
        way = 1 if e >= s else -1
        only = [s + way * k * at for at in range(steps + 1)]
        self.assertEqual(last(begin(*flat), grade(k), ends(s, e), LINE), [len(only), *only])
        for beyond in (e + 1, e - 1):
            if 0 <= beyond <= 40 and abs(beyond - s) > k * steps:
                self.assertEqual(looks(begin(*flat), grade(k), ends(s, beyond)), NONE_AT_ALL)

    def test_two_inner_heights_too_far_from_one_another(self):
        calls = [begin(5, 5, 5, 5, 5, 5, 5), grade(2), fix(2, 9)]
        self.assertEqual(last(*calls, fix(3, 7), LINE), [7, 5, 7, 9, 7, 5, 5, 5])
        self.assertEqual(looks(*calls, fix(3, 6)), NONE_AT_ALL)
        self.assertEqual(looks(*calls, fix(4, 4)), NONE_AT_ALL)
        self.assertEqual(last(*calls, fix(4, 5), CAN), [1])

    def test_a_told_height_far_above_the_ground(self):
        told = looks(begin(*[0] * 9), grade(10), fix(4, 40))
        self.assertEqual(told, [[1], [40 + 2 * (30 + 20 + 10)], [9, 0, 10, 20, 30, 40, 30, 20, 10, 0], [0, 160]])
        told = looks(begin(*[40] * 9), grade(10), fix(4, 0), price(10, 1))
        self.assertEqual(told, [[1], [1600], [9, 40, 30, 20, 10, 0, 10, 20, 30, 40], [160, 0]])

    def test_ground_that_jumps(self):
        calls = [begin(0, 0, 40, 40, 0, 0)]
        # Two more filled for two less cut cost alike, so the line stays low until cutting is dearer.
        self.assertEqual(looks(*calls), [[1], [78], [6, 0, 0, 1, 1, 0, 0], [78, 0]])
        self.assertEqual(looks(*calls, price(2, 1)), [[1], [154], [6, 0, 1, 2, 2, 1, 0], [76, 2]])
        self.assertEqual(looks(begin(40, 0, 40, 0, 40), grade(10)), [[1], [60], [5, 40, 30, 40, 30, 40], [0, 60]])
        self.assertEqual(looks(begin(0, 40)), NONE_AT_ALL)

    def test_prices_far_from_one_another(self):
        calls = [begin(5, 5, 9, 5, 5), fix(2, 7)]
        self.assertEqual(last(*calls, LINE), [5, 5, 6, 7, 6, 5])
        calls = [begin(5, 7, 3, 7, 5), grade(1)]
        self.assertEqual(looks(*calls, price(10, 1)), [[1], [22], [5, 5, 6, 5, 6, 5], [2, 2]])
        self.assertEqual(looks(*calls, price(1, 10)), [[1], [6], [5, 5, 4, 3, 4, 5], [6, 0]])

    def test_of_two_lines_alike_the_first(self):
        # 5 5 4 5 and 5 6 5 5 each cost 1.
        calls = [begin(5, 6, 4, 5)]
        self.assertEqual(looks(*calls), [[1], [1], [4, 5, 5, 4, 5], [1, 0]])
        self.assertEqual(say(*calls, tried(5, 6, 5, 5), tried(5, 5, 4, 5))[1:], [[1, 0, 1], [1, 1, 0]])
        self.assertEqual(looks(*calls, price(2, 1)), [[1], [1], [4, 5, 6, 5, 5], [0, 1]])
        # 5 4 5 5 and 5 5 6 5 each cost 1.
        self.assertEqual(looks(begin(5, 4, 6, 5)), [[1], [1], [4, 5, 4, 5, 5], [1, 0]])

    def test_of_two_lines_alike_that_differ_late_the_first(self):
        # After 5 5 5 5 the same choice comes as above, and nothing before it differs.
        told = looks(begin(5, 5, 5, 5, 6, 4, 5))
        self.assertEqual(told, [[1], [1], [7, 5, 5, 5, 5, 5, 4, 5], [1, 0]])

    def test_heights_of_0_and_40(self):
        self.assertEqual(looks(begin(0, 0, 0)), [[1], [0], [3, 0, 0, 0], [0, 0]])
        self.assertEqual(looks(begin(40, 40, 40)), [[1], [0], [3, 40, 40, 40], [0, 0]])
        self.assertEqual(looks(begin(0, 40, 0), grade(10)), [[1], [30], [3, 0, 10, 0], [30, 0]])
        self.assertEqual(looks(begin(40, 0, 40), grade(10)), [[1], [30], [3, 40, 30, 40], [0, 30]])
        self.assertEqual(last(begin(40, 40, 40), grade(10), tried(40, 40, 40)), [0, 0, 0])

    def test_a_station_let_free(self):
        told = say(begin(5, 5, 5, 5), fix(1, 6), COST, fix(2, 6), COST, free(1), COST, LINE, free(2), COST)
        self.assertEqual([told[2], told[4], told[6], told[7], told[9]], [[1], [2], [1], [4, 5, 5, 6, 5], [0]])

    def test_the_last_step(self):
        self.assertEqual(looks(begin(5, 5, 5, 6)), [[1], [0], [4, 5, 5, 5, 6], [0, 0]])
        self.assertEqual(looks(begin(5, 5, 5, 7)), [[1], [1], [4, 5, 5, 6, 7], [0, 1]])
        self.assertEqual(looks(begin(5, 5, 5, 7), fix(2, 5)), NONE_AT_ALL)
        self.assertEqual(looks(begin(5, 5, 5, 6), fix(2, 5)), [[1], [0], [4, 5, 5, 5, 6], [0, 0]])


if __name__ == "__main__":
    unittest.main()
