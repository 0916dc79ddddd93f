"""Promise 4: station, profile, state."""

import unittest

from tests.helper import (
    AN_END, GREATEST, NO_STATION, OUT_OF_RANGE, PROFILE, STATE,
    begin, ends, fix, free, grade, ground, last, price, probe, say, station,
)


class Station(unittest.TestCase):
    def test_answers_the_ground_then_one_more_than_the_told_height(self):
        told = say(begin(4, 8, 6), fix(1, 5), station(0), station(1), station(2))
        self.assertEqual(told[2:], [[4, 5], [8, 6], [6, 7]])

    def test_where_none_is_told_0(self):
        self.assertEqual(say(begin(4, 8, 0, 6), station(1), station(2))[1:], [[8, 0], [0, 0]])

    def test_a_told_height_of_0_is_not_none(self):
        told = say(begin(4, 8, 6), fix(1, 0), station(1), ends(0, 0), station(0), station(2), free(1), station(1))
        self.assertEqual([told[2], *told[4:6], told[7]], [[8, 1], [4, 1], [6, 1], [8, 0]])

    def test_heights_of_40(self):
        told = say(begin(40, 40, 40), fix(1, 40), station(0), station(1), station(2))
        self.assertEqual(told[2:], [[40, 41]] * 3)

    def test_the_ground_and_the_ends_are_apart(self):
        told = say(begin(4, 8, 6), ground(0, 9), ends(1, 2), ground(2, 3), station(0), station(1), station(2))
        self.assertEqual(told[4:], [[9, 2], [8, 0], [3, 3]])

    def test_refuses_no_station(self):
        self.assertEqual(say(begin(4, 8, 6), station(3), station(GREATEST))[1:], [[NO_STATION]] * 2)
        self.assertEqual(say(begin(4, 8), station(1), station(2))[1:], [[8, 9], [NO_STATION]])
        self.assertEqual(say(begin(*[1] * 12), station(11), station(12))[1:], [[1, 2], [NO_STATION]])

    def test_where_there_is_no_line_too(self):
        self.assertEqual(last(begin(0, 40), station(1)), [40, 41])


class Profile(unittest.TestCase):
    def test_answers_how_many_stations_then_the_ground(self):
        self.assertEqual(last(begin(4, 8, 6), PROFILE), [3, 4, 8, 6])
        self.assertEqual(last(begin(0, 40), PROFILE), [2, 0, 40])
        self.assertEqual(last(begin(*range(29, 41)), PROFILE), [12, *range(29, 41)])

    def test_is_of_the_ground_and_not_of_what_is_told(self):
        self.assertEqual(last(begin(4, 8, 6), ends(1, 2), fix(1, 3), grade(9), price(2, 2), PROFILE), [3, 4, 8, 6])

    def test_ground_changes_it(self):
        self.assertEqual(last(begin(4, 8, 6), ground(0, 0), ground(1, 40), ground(2, 7), PROFILE), [3, 0, 40, 7])

    def test_a_later_begin_changes_it(self):
        told = say(begin(4, 8, 6), begin(1, 2), PROFILE, begin(1), PROFILE, begin(5, 6, 7, 8), PROFILE)
        self.assertEqual(told[2::2], [[2, 1, 2], [2, 1, 2], [4, 5, 6, 7, 8]])

    def test_an_earlier_answer_stays_as_it_was(self):
        told = say(begin(4, 8, 6), PROFILE, ground(1, 9), PROFILE)
        self.assertEqual(told[1::2], [[3, 4, 8, 6], [3, 4, 9, 6]])


class State(unittest.TestCase):
    def test_is_as_told_at_first(self):
        self.assertEqual(last(begin(4, 8, 6), STATE), [0, 3, 1, 1, 1, 2])
        self.assertEqual(last(begin(0, 40), STATE), [0, 2, 1, 1, 1, 2])
        self.assertEqual(last(begin(*[7] * 12), STATE), [0, 12, 1, 1, 1, 2])

    def test_answers_the_grade_then_both_prices(self):
        self.assertEqual(last(begin(4, 8, 6), grade(7), price(2, 9), STATE), [0, 3, 7, 2, 9, 2])
        self.assertEqual(last(begin(4, 8, 6), grade(0), price(10, 1), STATE), [0, 3, 0, 10, 1, 2])

    def test_counts_the_stations_where_a_height_is_told(self):
        calls = [begin(4, 8, 6, 7), fix(1, 0), STATE, fix(1, 9), STATE, fix(2, 40), STATE, free(1), STATE, free(2), STATE]
        self.assertEqual([answer[5] for answer in say(*calls)[2::2]], [3, 3, 4, 3, 2])

    def test_counts_all_of_twelve(self):
        self.assertEqual(last(begin(*[7] * 12), *[fix(i, i) for i in range(1, 11)], STATE), [0, 12, 1, 1, 1, 12])

    def test_ends_and_ground_leave_the_count(self):
        self.assertEqual(last(begin(4, 8, 6), ends(0, 0), ground(1, 0), ground(0, 3), STATE), [0, 3, 1, 1, 1, 2])

    def test_a_later_begin_makes_it_new(self):
        calls = [begin(4, 8, 6, 7), grade(7), price(2, 9), fix(1, 3)]
        told = say(*calls, begin(41, 0), STATE, begin(5, 6, 7), STATE)
        self.assertEqual(told[4:], [[OUT_OF_RANGE], [0, 4, 7, 2, 9, 3], [3], [0, 3, 1, 1, 1, 2]])

    def test_refused_calls_leave_it(self):
        told = say(begin(4, 8, 6), grade(11), price(0, 5), fix(0, 5), fix(3, 5), STATE)
        self.assertEqual(told[1:], [[OUT_OF_RANGE], [OUT_OF_RANGE], [AN_END], [NO_STATION], [0, 3, 1, 1, 1, 2]])


class Looking(unittest.TestCase):
    def test_changes_nothing(self):
        calls = [begin(4, 8, 6, 7), grade(3), price(2, 9), fix(1, 6), ends(5, 5)]
        as_it_was = say(*calls, *probe(4))[len(calls):]
        for look in [PROFILE, STATE, *[station(i) for i in (0, 1, 2, 3, 4, GREATEST)]]:
            self.assertEqual(say(*calls, look, look, *probe(4))[len(calls) + 2:], as_it_was)


if __name__ == "__main__":
    unittest.main()
