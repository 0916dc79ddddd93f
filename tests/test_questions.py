"""Promise 3: why, leastgrade, ifgrade, between, through, worth."""

import unittest

from tests.helper import (
    AN_END, COST, GREATEST, LEASTGRADE, NO_LINE, NO_STATION, NONE_TOLD, NONE_TOO_FAR, OUT_OF_RANGE, STATE, WHY,
    begin, between, ends, fix, free, grade, ground, ifgrade, last, price, probe, say, through, worth,
)


def all_between(*calls, stations):
    return say(*calls, *[between(i) for i in range(stations)])[len(calls):]


class Why(unittest.TestCase):
    def test_none_too_far(self):
        self.assertEqual(last(begin(4, 4, 4), WHY), [NONE_TOO_FAR])
        self.assertEqual(last(begin(4, 4, 4, 4, 4), fix(2, 6), WHY), [NONE_TOO_FAR])

    def test_both_ends(self):
        self.assertEqual(last(begin(0, 0, 3), WHY), [0, 2])
        self.assertEqual(last(begin(3, 0, 0), WHY), [0, 2])

    def test_two_inner_ones(self):
        calls = [begin(5, 5, 5, 5, 5, 5, 5), grade(2), fix(2, 9)]
        self.assertEqual(say(*calls, fix(3, 6), WHY, fix(3, 7), WHY)[-3::2], [[2, 3], [NONE_TOO_FAR]])
        self.assertEqual(say(*calls, fix(4, 4), WHY, fix(4, 5), WHY)[-3::2], [[2, 4], [NONE_TOO_FAR]])

    def test_the_lesser_station_goes_first(self):
        # 1 and 2 are too far off too, and nearer to one another.
        self.assertEqual(last(begin(5, 6, 4, 5, 10), fix(1, 6), fix(2, 4), WHY), [0, 4])
        self.assertEqual(last(begin(5, 6, 8, 8), fix(1, 6), fix(2, 8), WHY), [0, 2])

    def test_then_the_greater_one(self):
        calls = [begin(5, 5, 5, 5, 5), fix(1, 9), fix(3, 0)]
        self.assertEqual(say(*calls, WHY, free(1), WHY, free(3), WHY)[-5::2], [[0, 1], [0, 3], [NONE_TOO_FAR]])

    def test_an_inner_one_and_the_last(self):
        self.assertEqual(last(begin(5, 5, 5, 5, 5), fix(2, 6), fix(3, 7), WHY), [3, 4])

    def test_two_stations(self):
        self.assertEqual(say(begin(7, 8), WHY, begin(7, 9), WHY, begin(9, 7), WHY)[1::2],
                         [[NONE_TOO_FAR], [0, 1], [0, 1]])

    def test_what_just_can_be_joined_and_what_just_cannot(self):
        for k in range(11):
            for steps in range(1, 12):
                far = k * steps
                calls = [begin(*[0] * (steps + 1)), grade(k)]
                if far <= 40:
                    self.assertEqual(last(*calls, ends(0, far), WHY), [NONE_TOO_FAR])
                    self.assertEqual(last(*calls, ends(40, 40 - far), WHY), [NONE_TOO_FAR])
                if far < 40:
                    self.assertEqual(last(*calls, ends(0, far + 1), WHY), [0, steps])
                    self.assertEqual(last(*calls, ends(40, 39 - far), WHY), [0, steps])

    def test_the_ground_does_not_count(self):
        self.assertEqual(say(begin(0, 40, 0), WHY, ground(0, 40), WHY)[1::2], [[NONE_TOO_FAR]] * 2)


class Leastgrade(unittest.TestCase):
    def test_ordinary_ones(self):
        self.assertEqual(last(begin(4, 4, 4), LEASTGRADE), [0])
        self.assertEqual(last(begin(4, 4, 5), LEASTGRADE), [1])
        self.assertEqual(last(begin(0, 0, 2), LEASTGRADE), [1])
        self.assertEqual(last(begin(0, 0, 3), LEASTGRADE), [2])
        self.assertEqual(last(begin(3, 0, 0), LEASTGRADE), [2])

    def test_may_be_greater_than_any_that_can_be_set(self):
        self.assertEqual(say(begin(0, 11), LEASTGRADE, begin(0, 40), LEASTGRADE)[1::2], [[11], [40]])
        self.assertEqual(say(begin(40, 0), LEASTGRADE, begin(40, 1, 0), LEASTGRADE)[1::2], [[40], [20]])

    def test_of_the_two_that_are_hardest_to_join(self):
        calls = [begin(5, 5, 5, 5, 5), fix(2, 40)]
        self.assertEqual(last(*calls, LEASTGRADE), [18])
        self.assertEqual(last(*calls, fix(3, 0), LEASTGRADE), [40])
        self.assertEqual(last(*calls, fix(3, 25), LEASTGRADE), [20])
        self.assertEqual(last(*calls, fix(3, 25), free(2), LEASTGRADE), [20])
        self.assertEqual(last(*calls, fix(3, 25), free(2), free(3), LEASTGRADE), [0])

    def test_the_last_step(self):
        self.assertEqual(last(begin(5, 5, 5, 9), fix(2, 5), LEASTGRADE), [4])

    def test_on_twelve_stations(self):
        calls = [begin(*[0] * 12)]
        told = say(*calls, *[call for e in (33, 34, 40, 11, 12) for call in (ends(0, e), LEASTGRADE)])
        self.assertEqual(told[2::2], [[3], [4], [4], [1], [2]])

    def test_neither_the_grade_nor_the_ground_counts(self):
        for k in (0, 1, 10):
            self.assertEqual(say(begin(3, 40, 9), grade(k), LEASTGRADE, ground(2, 40), LEASTGRADE)[2::2], [[3]] * 2)


class Ifgrade(unittest.TestCase):
    def test_answers_what_the_cheapest_would_cost(self):
        told = say(begin(0, 9, 0), *[ifgrade(k) for k in (0, 1, 5, 8, 9, 10, 40)])
        self.assertEqual(told[1:], [[9], [8], [4], [1], [0], [0], [0]])

    def test_by_the_prices(self):
        self.assertEqual(last(begin(0, 9, 0), price(3, 1), ifgrade(2)), [21])
        self.assertEqual(last(begin(9, 0, 9), price(3, 2), ifgrade(2)), [14])

    def test_by_a_grade_above_10(self):
        self.assertEqual(say(begin(0, 40, 0), ifgrade(11), ifgrade(39), ifgrade(40))[1:], [[29], [1], [0]])
        self.assertEqual(say(begin(0, 40), ifgrade(10), ifgrade(39), ifgrade(40))[1:], [[NO_LINE], [NO_LINE], [0]])

    def test_where_there_is_none_by_the_grade_that_is(self):
        self.assertEqual(say(begin(0, 0, 3), COST, ifgrade(1), ifgrade(2))[1:], [[NO_LINE], [NO_LINE], [1]])

    def test_by_a_grade_of_0(self):
        self.assertEqual(last(begin(5, 9, 2, 5), ifgrade(0)), [7])
        self.assertEqual(last(begin(5, 5, 5, 6), ifgrade(0)), [NO_LINE])
        self.assertEqual(last(begin(5, 5), ifgrade(0)), [0])

    def test_keeps_the_told_heights(self):
        self.assertEqual(say(begin(5, 5, 5), fix(1, 8), ifgrade(2), ifgrade(3), ifgrade(40))[2:],
                         [[NO_LINE], [3], [3]])

    def test_is_what_cost_answers_by_that_grade(self):
        calls = [begin(3, 30, 0, 9, 9, 25, 7), price(3, 4), fix(3, 12)]
        for k in range(11):
            would, was, does = say(*calls, ifgrade(k), grade(k), COST)[-3:]
            self.assertEqual((would, was), (does, [1]))

    def test_refuses_above_40(self):
        for calls in ([begin(0, 9, 0)], [begin(0, 9)]):
            for k in (41, 42, GREATEST):
                self.assertEqual(last(*calls, ifgrade(k)), [OUT_OF_RANGE])

    def test_leaves_the_grade(self):
        calls = [begin(0, 9, 0), grade(3)]
        for k in (0, 5, 11, 40, 41):
            self.assertEqual(say(*calls, ifgrade(k), *probe(3))[3:], say(*calls, *probe(3))[2:])
        self.assertEqual(last(*calls, ifgrade(40), grade(1)), [3])


class Between(unittest.TestCase):
    def test_ordinary_ones(self):
        self.assertEqual(all_between(begin(5, 5, 5, 5, 5), stations=5), [[5, 5], [4, 6], [3, 7], [4, 6], [5, 5]])

    def test_the_ground_does_not_count(self):
        self.assertEqual(all_between(begin(5, 9, 0, 40, 5), stations=5), [[5, 5], [4, 6], [3, 7], [4, 6], [5, 5]])

    def test_no_lower_than_0_and_no_higher_than_40(self):
        calls = [begin(1, 1, 1, 1, 1), grade(3)]
        self.assertEqual(all_between(*calls, stations=5), [[1, 1], [0, 4], [0, 7], [0, 4], [1, 1]])
        calls = [begin(39, 39, 39, 39, 39), grade(3)]
        self.assertEqual(all_between(*calls, stations=5), [[39, 39], [36, 40], [33, 40], [36, 40], [39, 39]])

    def test_told_heights_hold_it(self):
        calls = [begin(5, 5, 5, 5, 5), fix(2, 6)]
        self.assertEqual(all_between(*calls, stations=5), [[5, 5], [5, 6], [6, 6], [5, 6], [5, 5]])
        self.assertEqual(all_between(*calls, free(2), stations=5), [[5, 5], [4, 6], [3, 7], [4, 6], [5, 5]])

    def test_a_told_height_that_is_no_neighbour_may_hold_it_most(self):
        calls = [begin(*[5] * 7), grade(2), fix(1, 7), fix(5, 0), ends(5, 2)]
        self.assertEqual(
            all_between(*calls, stations=7), [[5, 5], [7, 7], [5, 6], [3, 4], [1, 2], [0, 0], [2, 2]])

    def test_told_heights_that_just_can_be_joined_leave_one_way(self):
        calls = [begin(0, 0, 0, 0, 40), grade(10)]
        self.assertEqual(all_between(*calls, stations=5), [[0, 0], [10, 10], [20, 20], [30, 30], [40, 40]])
        self.assertEqual(all_between(*calls, ends(0, 38), stations=5), [[0, 0], [8, 10], [18, 20], [28, 30], [38, 38]])

    def test_two_stations(self):
        self.assertEqual(all_between(begin(7, 8), stations=3), [[7, 7], [8, 8], [NO_STATION]])

    def test_a_grade_of_0(self):
        self.assertEqual(all_between(begin(5, 9, 5), grade(0), stations=3), [[5, 5]] * 3)

    def test_refuses_no_station_then_no_line(self):
        for i in (3, 4, GREATEST):
            self.assertEqual(last(begin(0, 0, 0), between(i)), [NO_STATION])
            self.assertEqual(last(begin(0, 0, 3), between(i)), [NO_STATION])
        self.assertEqual(all_between(begin(0, 0, 3), stations=3), [[NO_LINE]] * 3)
        self.assertEqual(all_between(begin(0, 0, 0, 0), fix(2, 2), stations=4), [[NO_LINE]] * 4)


class Through(unittest.TestCase):
    def test_answers_what_the_cheapest_of_those_costs(self):
        told = say(begin(4, 4, 4), *[through(1, x) for x in (2, 3, 4, 5, 6)])
        self.assertEqual(told[1:], [[NO_LINE], [1], [0], [1], [NO_LINE]])
        told = say(begin(4, 4, 4, 4, 4), price(3, 5), *[through(2, x) for x in (1, 2, 3, 4, 5, 6, 7)])
        self.assertEqual(told[2:], [[NO_LINE], [12], [3], [0], [5], [20], [NO_LINE]])

    def test_at_an_end_only_the_told_height(self):
        told = say(begin(4, 4, 4), through(0, 4), through(0, 5), through(2, 4), through(2, 3), through(2, 0))
        self.assertEqual(told[1:], [[0], [NO_LINE], [0], [NO_LINE], [NO_LINE]])

    def test_where_another_height_is_told(self):
        told = say(begin(4, 4, 4, 4), fix(1, 5), *[through(1, x) for x in (4, 5, 6)], through(2, 6), through(2, 5))
        self.assertEqual(told[2:], [[NO_LINE], [1], [NO_LINE], [NO_LINE], [2]])

    def test_a_told_height_of_0(self):
        told = say(begin(1, 1, 1), fix(1, 0), through(1, 0), through(1, 1), free(1), through(1, 1))
        self.assertEqual(told[2:], [[1], [NO_LINE], [0], [0]])

    def test_heights_of_0_and_40(self):
        self.assertEqual(say(begin(0, 40, 0), grade(10), through(1, 0), through(1, 10), through(1, 11))[2:],
                         [[40], [30], [NO_LINE]])
        self.assertEqual(say(begin(40, 0, 40), grade(10), through(1, 40), through(1, 30), through(1, 29))[2:],
                         [[40], [30], [NO_LINE]])

    def test_two_stations(self):
        told = say(begin(7, 8), through(0, 7), through(1, 8), through(1, 7), through(2, 7))
        self.assertEqual(told[1:], [[0], [0], [NO_LINE], [NO_STATION]])

    def test_a_grade_of_0(self):
        told = say(begin(5, 9, 5), grade(0), through(1, 5), through(1, 6), through(1, 4))
        self.assertEqual(told[2:], [[4], [NO_LINE], [NO_LINE]])

    def test_refuses_no_station_then_out_of_range_then_no_line(self):
        for calls in ([begin(4, 4, 4)], [begin(0, 0, 3)], [begin(4, 4, 4), fix(1, 5)]):
            for i, x, refusal in (
                (3, 4, NO_STATION), (3, 41, NO_STATION), (GREATEST, GREATEST, NO_STATION), (GREATEST, 0, NO_STATION),
                (0, 41, OUT_OF_RANGE), (1, 41, OUT_OF_RANGE), (2, GREATEST, OUT_OF_RANGE), (1, GREATEST, OUT_OF_RANGE),
                (0, 40, NO_LINE), (1, 40, NO_LINE), (2, 40, NO_LINE),
            ):
                self.assertEqual(last(*calls, through(i, x)), [refusal], (calls, i, x))
        self.assertEqual(say(begin(0, 0, 3), through(0, 0), through(1, 1), through(2, 3))[1:], [[NO_LINE]] * 3)

    def test_leaves_the_told_heights(self):
        for calls in ([begin(4, 8, 6, 7), grade(3), fix(1, 6)], [begin(4, 8, 6, 9), grade(1), fix(1, 6)]):
            for look in (through(1, 6), through(1, 7), through(2, 6), through(2, 0), through(0, 4), through(3, 41)):
                self.assertEqual(say(*calls, look, *probe(4))[len(calls) + 1:], say(*calls, *probe(4))[len(calls):])


class Worth(unittest.TestCase):
    def test_answers_how_much_less_then_what_it_would_cost(self):
        self.assertEqual(last(begin(4, 4, 4), fix(1, 5), worth(1)), [1, 0])
        calls = [begin(5, 5, 5, 5), price(2, 3), fix(1, 6), fix(2, 6)]
        self.assertEqual(say(*calls, COST, worth(1), worth(2))[-3:], [[6], [3, 3], [3, 3]])

    def test_a_height_that_costs_nothing(self):
        self.assertEqual(last(begin(5, 9, 5), fix(1, 6), worth(1)), [0, 3])
        self.assertEqual(last(begin(5, 5, 5), fix(1, 5), worth(1)), [0, 0])

    def test_a_told_height_far_above_the_ground(self):
        calls = [begin(*[0] * 9), grade(10), fix(4, 40)]
        self.assertEqual(last(*calls, worth(4)), [160, 0])
        # Without the 40 the line rises to the 30 a station later: 10 + 20 + 30 + 20 + 10.
        self.assertEqual(last(*calls, fix(5, 30), worth(4)), [160 - 90, 90])

    def test_heights_of_0_and_40(self):
        self.assertEqual(last(begin(9, 9, 9), grade(10), price(2, 1), fix(1, 0), worth(1)), [18, 0])
        self.assertEqual(last(begin(31, 31, 31), grade(10), price(2, 1), fix(1, 40), worth(1)), [9, 0])

    def test_refuses_no_station_then_an_end_then_none_told(self):
        for calls in ([begin(4, 4, 4)], [begin(0, 0, 3)]):
            for i, refusal in ((3, NO_STATION), (GREATEST, NO_STATION), (0, AN_END), (2, AN_END), (1, NONE_TOLD)):
                self.assertEqual(last(*calls, worth(i)), [refusal], (calls, i))

    def test_refuses_where_there_is_no_line(self):
        # With none told at 1 there'd be one, but now there's none.
        self.assertEqual(say(begin(4, 4, 4), fix(1, 9), worth(1), worth(0), worth(3))[2:],
                         [[NO_LINE], [AN_END], [NO_STATION]])
        self.assertEqual(say(begin(0, 0, 0, 9), fix(1, 1), worth(1), worth(2))[2:], [[NO_LINE], [NONE_TOLD]])

    def test_two_stations_are_both_ends(self):
        self.assertEqual(say(begin(4, 4), worth(0), worth(1), worth(2))[1:], [[AN_END], [AN_END], [NO_STATION]])

    def test_a_station_let_free(self):
        self.assertEqual(say(begin(4, 4, 4), fix(1, 5), free(1), worth(1))[3], [NONE_TOLD])

    def test_is_what_free_then_brings(self):
        calls = [begin(3, 30, 0, 9, 9, 25, 7), grade(9), price(3, 4), fix(3, 12), fix(5, 8)]
        for i in (3, 5):
            told, before, freed, after = say(*calls, worth(i), COST, free(i), COST)[-4:]
            self.assertEqual(told, [before[0] - after[0], after[0]])
            self.assertGreater(told[0], 0)

    def test_leaves_the_told_heights(self):
        for calls in ([begin(4, 8, 6, 7), grade(3), fix(1, 6)], [begin(4, 8, 6, 9), grade(0), fix(1, 6)]):
            for look in (worth(1), worth(2), worth(0), worth(4)):
                self.assertEqual(say(*calls, look, *probe(4))[len(calls) + 1:], say(*calls, *probe(4))[len(calls):])
        self.assertEqual(last(begin(4, 4, 4), fix(1, 5), worth(1), STATE)[5], 3)


if __name__ == "__main__":
    unittest.main()
