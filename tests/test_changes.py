"""Promise 1: begin, ends, grade, price, ground, fix, free."""

import unittest

from tests.helper import (
    AN_END, CAN, COST, GREATEST, GREATEST_IN_ROW, LINE, NO_STATION, NONE_TOLD, NOT_BEGUN, OUT_OF_RANGE,
    begin, between, ends, fix, free, grade, ground, ifgrade, last, price, probe, say, station, through, tried, worth,
)

EVERY_OTHER_CALL = [
    [1, 0, 0], [2, 0], [3, 1, 1], [4, 0, 0], [5, 1, 0], [6, 1], [7], [8], [9], [10], [11, 2, 0, 0],
    [12], [13], [14, 0], [15, 0], [16, 0, 0], [17, 1], [18], [19], [20, 0], [21], [22],
]


class Begin(unittest.TestCase):
    def test_answers_how_many_stations(self):
        for many in range(2, 13):
            self.assertEqual(say(begin(*range(many))), [[many]])

    def test_takes_heights_of_0_and_40(self):
        self.assertEqual(say(begin(0, 40)), [[2]])

    def test_refuses_too_few_and_too_many(self):
        for many in (0, 1, 13, 14, 41, 29000):
            self.assertEqual(say(begin(*[0] * many)), [[OUT_OF_RANGE]], many)

    def test_refuses_heights_above_40_wherever_they_stand(self):
        for height in (41, 256, GREATEST_IN_ROW):
            for at in range(3):
                row = [0, 0, 0]
                row[at] = height
                self.assertEqual(say(begin(*row)), [[OUT_OF_RANGE]])

    def test_all_others_answer_not_begun_before_it(self):
        for call in EVERY_OTHER_CALL:
            self.assertEqual(say(call), [[NOT_BEGUN]], call)
            self.assertEqual(say(begin(1), call, begin(3, 41), call)[1::2], [[NOT_BEGUN]] * 2, call)
        every = say(*EVERY_OTHER_CALL, begin(3, 3), CAN)
        self.assertEqual(every[:-2], [[NOT_BEGUN]] * len(EVERY_OTHER_CALL))
        self.assertEqual(every[-2:], [[2], [1]])

    def test_not_begun_goes_before_every_other_refusal(self):
        wrong = [ends(41, 41), grade(11), price(0, 0), ground(GREATEST, 41), fix(0, 41), free(0), tried()]
        wrong += [ifgrade(41), between(GREATEST), through(GREATEST, 41), through(0, 41), worth(0), worth(GREATEST)]
        wrong += [station(GREATEST)]
        self.assertEqual(say(*wrong), [[NOT_BEGUN]] * len(wrong))

    def test_a_call_before_it_leaves_no_trace(self):
        calls = [ends(7, 7), grade(5), price(3, 4), fix(1, 9)]
        self.assertEqual(say(*calls, begin(1, 2, 3), *probe(3))[len(calls):], say(begin(1, 2, 3), *probe(3)))

    def test_is_as_told_at_first(self):
        grounds = [ground(i, 0) for i in range(3)]
        told = say(begin(4, 8, 6), ends(0, 0), grade(0), price(1, 1), fix(1, 0), *grounds)
        self.assertEqual(told, [[3], [4, 6], [1], [1, 1], [0], [4], [8], [6]])

    def test_a_refused_later_one_leaves_the_road_as_it_was(self):
        calls = [begin(4, 8, 6), ends(5, 7), grade(3), price(2, 9), fix(1, 6)]
        for refused in (begin(), begin(1), begin(*[0] * 13), begin(0, 41, 0), begin(*[GREATEST_IN_ROW] * 29000)):
            self.assertEqual(last(*calls, refused), [OUT_OF_RANGE])
            self.assertEqual(say(*calls, refused, *probe(3))[6:], say(*calls, *probe(3))[5:])

    def test_a_later_one_begins_anew(self):
        calls = [begin(4, 8, 6), ends(5, 7), grade(3), price(2, 9), fix(1, 6)]
        for anew in ([3, 3], [1, 2, 3], [9, 0, 9, 0]):
            self.assertEqual(say(*calls, begin(*anew), *probe(len(anew)))[5:], say(begin(*anew), *probe(len(anew))))


class Ends(unittest.TestCase):
    def test_answers_what_was_told(self):
        told = say(begin(4, 8, 6), ends(5, 9), ends(0, 40), ends(40, 0), ends(1, 1))
        self.assertEqual(told[1:], [[4, 6], [5, 9], [0, 40], [40, 0]])

    def test_the_line_has_them(self):
        told = say(begin(4, 4, 4), ends(3, 5), LINE, ends(5, 3), LINE)
        self.assertEqual((told[2], told[4]), ([3, 3, 4, 5], [3, 5, 4, 3]))

    def test_works_on_two_stations(self):
        told = say(begin(4, 4), ends(3, 4), LINE, ends(4, 3), LINE)
        self.assertEqual(told, [[2], [4, 4], [2, 3, 4], [3, 4], [2, 4, 3]])

    def test_refuses_either_above_40(self):
        for s, e in ((41, 0), (0, 41), (41, 41), (GREATEST, 0), (0, GREATEST)):
            told = say(begin(4, 8, 6), ends(s, e), ends(0, 0))
            self.assertEqual(told[1:], [[OUT_OF_RANGE], [4, 6]])


class Grade(unittest.TestCase):
    def test_answers_what_it_was(self):
        self.assertEqual(say(begin(0, 0), grade(0), grade(10), grade(5), grade(1)), [[2], [1], [0], [10], [5]])

    def test_the_line_keeps_it(self):
        told = say(begin(0, 9, 0), LINE, grade(0), LINE, grade(10), LINE)
        self.assertEqual(told[1::2], [[3, 0, 1, 0], [3, 0, 0, 0], [3, 0, 9, 0]])

    def test_refuses_above_10(self):
        for k in (11, 40, GREATEST):
            self.assertEqual(say(begin(0, 0), grade(3), grade(k), grade(1))[2:], [[OUT_OF_RANGE], [3]])


class Price(unittest.TestCase):
    def test_answers_what_cutting_then_filling_cost(self):
        told = say(begin(0, 0), price(2, 3), price(10, 1), price(1, 10), price(5, 5))
        self.assertEqual(told[1:], [[1, 1], [2, 3], [10, 1], [1, 10]])

    def test_cutting_and_filling_cost_so_much(self):
        self.assertEqual(last(begin(3, 5, 3), fix(1, 4), price(7, 2), COST), [7])
        self.assertEqual(last(begin(3, 5, 3), grade(5), fix(1, 7), price(7, 2), COST), [4])

    def test_refuses_either_out_of_1_to_10(self):
        for c, f in ((0, 1), (1, 0), (0, 0), (11, 1), (1, 11), (GREATEST, 5), (5, GREATEST), (0, 11)):
            told = say(begin(0, 0), price(4, 6), price(c, f), price(1, 1))
            self.assertEqual(told[2:], [[OUT_OF_RANGE], [4, 6]])


class Ground(unittest.TestCase):
    def test_answers_what_it_had(self):
        told = say(begin(4, 8, 6), ground(0, 40), ground(1, 0), ground(2, 7), ground(0, 1), ground(1, 1), ground(2, 1))
        self.assertEqual(told[1:], [[4], [8], [6], [40], [0], [7]])

    def test_leaves_the_heights_told_at_the_ends(self):
        told = say(begin(4, 4, 4), ground(0, 9), ground(2, 1), LINE, COST, ends(0, 0))
        self.assertEqual(told[3:], [[3, 4, 4, 4], [8], [4, 4]])

    def test_leaves_a_fixed_height(self):
        self.assertEqual(last(begin(4, 4, 4), fix(1, 5), ground(1, 9), fix(1, 0)), [6])

    def test_counts_for_the_cost(self):
        self.assertEqual(say(begin(4, 4, 4), COST, ground(1, 9), COST, LINE)[1:], [[0], [4], [4], [3, 4, 5, 4]])

    def test_refuses_no_station_then_out_of_range(self):
        for i, x, refusal in (
            (3, 0, NO_STATION), (3, 41, NO_STATION), (GREATEST, 0, NO_STATION), (GREATEST, GREATEST, NO_STATION),
            (0, 41, OUT_OF_RANGE), (1, 41, OUT_OF_RANGE), (2, GREATEST, OUT_OF_RANGE),
        ):
            self.assertEqual(last(begin(4, 8, 6), ground(i, x)), [refusal], (i, x))


class Fix(unittest.TestCase):
    def test_answers_one_more_than_was_told(self):
        told = say(begin(4, 8, 6), fix(1, 0), fix(1, 40), fix(1, 7), fix(1, 7))
        self.assertEqual(told[1:], [[0], [1], [41], [8]])

    def test_the_line_has_it(self):
        self.assertEqual(say(begin(4, 4, 4, 4, 4), fix(2, 6), LINE)[2], [5, 4, 5, 6, 5, 4])

    def test_each_station_has_its_own(self):
        told = say(begin(4, 4, 4, 4, 4), fix(1, 5), fix(3, 3), fix(1, 0), fix(2, 0), fix(3, 0))
        self.assertEqual(told[1:], [[0], [0], [6], [0], [4]])

    def test_may_leave_no_line(self):
        self.assertEqual(say(begin(4, 4, 4), fix(1, 6), CAN)[1:], [[0], [0]])

    def test_refuses_no_station_then_an_end_then_out_of_range(self):
        for i, x, refusal in (
            (3, 0, NO_STATION), (3, 41, NO_STATION), (GREATEST, GREATEST, NO_STATION),
            (0, 4, AN_END), (2, 4, AN_END), (0, 41, AN_END), (2, GREATEST, AN_END),
            (1, 41, OUT_OF_RANGE), (1, GREATEST, OUT_OF_RANGE),
        ):
            self.assertEqual(last(begin(4, 8, 6), fix(i, x)), [refusal], (i, x))

    def test_two_stations_are_both_ends(self):
        self.assertEqual(say(begin(4, 4), fix(0, 4), fix(1, 4), fix(2, 4))[1:], [[AN_END], [AN_END], [NO_STATION]])

    def test_of_twelve_all_but_both_ends(self):
        told = say(begin(*[5] * 12), *[fix(i, 5) for i in range(13)])
        self.assertEqual(told[1:], [[AN_END], *[[0]] * 10, [AN_END], [NO_STATION]])


class Free(unittest.TestCase):
    def test_answers_which_was_told(self):
        told = say(begin(4, 8, 6), fix(1, 0), free(1), fix(1, 40), free(1), fix(1, 7))
        self.assertEqual(told[1:], [[0], [0], [0], [40], [0]])

    def test_none_is_told_any_more(self):
        told = say(begin(4, 4, 4), fix(1, 6), CAN, free(1), CAN, LINE, free(1))
        self.assertEqual(told[2:], [[0], [6], [1], [3, 4, 4, 4], [NONE_TOLD]])

    def test_leaves_the_others_told(self):
        told = say(begin(4, 4, 4, 4, 4), fix(1, 5), fix(2, 6), fix(3, 5), free(2), fix(1, 0), fix(2, 0), fix(3, 0))
        self.assertEqual(told[4:], [[6], [6], [0], [6]])

    def test_refuses_no_station_then_an_end_then_none_told(self):
        for i, refusal in ((3, NO_STATION), (GREATEST, NO_STATION), (0, AN_END), (2, AN_END), (1, NONE_TOLD)):
            self.assertEqual(last(begin(4, 8, 6), free(i)), [refusal], i)

    def test_two_stations_are_both_ends(self):
        self.assertEqual(say(begin(4, 4), free(0), free(1), free(2))[1:], [[AN_END], [AN_END], [NO_STATION]])


class Refused(unittest.TestCase):
    def test_what_is_refused_changes_nothing(self):
        calls = [begin(4, 8, 6, 7), ends(5, 7), grade(3), price(2, 9), fix(1, 6)]
        refused = [
            ends(41, 1), ends(1, 41), grade(11), price(0, 5), price(5, 0), price(11, 1), price(1, 11),
            ground(4, 1), ground(1, 41), fix(4, 1), fix(0, 1), fix(3, 1), fix(1, 41), fix(2, 41),
            free(4), free(0), free(3), free(2), tried(), tried(41, 1, 1, 1), tried(0, 0, 0, 0),
            ifgrade(41), between(4), through(4, 1), through(1, 41), through(1, 7), worth(4), worth(0), worth(3), worth(2),
            station(4),
        ]
        as_it_was = say(*calls, *probe(4))[len(calls):]
        for call in refused:
            told = say(*calls, call, *probe(4))[len(calls):]
            self.assertLess(told[0][0], 0, call)
            self.assertEqual(told[1:], as_it_was, call)


if __name__ == "__main__":
    unittest.main()
