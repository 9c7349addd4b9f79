"""Promise 2, of reach."""

import unittest

from tests.lines import LARGEST, answered, check, hour, last, reach, told

# Each hour in height 1 carries by 2 to the east; in height 0 there is no wind.
TWO_EAST = ((0, 0, 2, 0),) * 3


class Reach(unittest.TestCase):
    def test_no_hours(self):
        self.assertEqual(last(reach(0)), [1, 0, 0])
        self.assertEqual(last(*told(2, 1, 1, (5, 6), (1, 1, 2, 2)), reach(0)), [1, 0, 0])

    def test_fewer_hours_than_are_told(self):
        line = told(2, 1, 1, (0, 0), *TWO_EAST) + [reach(1), reach(2)]
        self.assertEqual(answered(*line)[4:], [[1, 0, 0], [2, 0, 0, 2, 0]])

    def test_just_so_many_hours(self):
        # What was reached behind fewer hours is not told, if it is not reached again.
        line = told(1, 0, 0, (0, 0), (1, 2), (3, 4), (5, 6)) + [reach(1), reach(2), reach(3)]
        self.assertEqual(answered(*line)[4:], [[1, 1, 2], [1, 4, 6], [1, 9, 12]])

    def test_one_height_and_all_six_hours(self):
        self.assertEqual(last(*told(1, 6, 6, (0, 0), *[(9, -9)] * 6), reach(6)), [1, 54, -54])

    def test_four_heights_and_all_six_hours(self):
        # In each height the wind is as strong as its number: any sum from 0 to 1 + 2 + 3 + 2 + 1 can be.
        line = told(4, 6, 6, (0, 0), *[(0, 0, 1, -1, 2, -2, 3, -3)] * 6) + [reach(6)]
        places = [number for level in range(10) for number in (level, -level)]
        self.assertEqual(last(*line), [10] + places)

    def test_the_same_place_by_several_flights_is_told_once(self):
        # 2, 0 is reached by two flights.
        self.assertEqual(last(*told(2, 1, 1, (0, 0), *TWO_EAST), reach(3)), [3, 0, 0, 2, 0, 4, 0])
        self.assertEqual(last(*told(4, 6, 6, (0, 0), *[(0,) * 8] * 6), reach(6)), [1, 0, 0])

    def test_the_same_place_with_other_sand_left_is_told_once(self):
        line = told(2, 2, 2, (0, 0), (0, 0, 5, 0), (0, 0, 0, 0), (0, 0, 5, 0), (0, 0, 0, 0)) + [reach(4)]
        self.assertEqual(last(*line), [3, 0, 0, 5, 0, 10, 0])

    def test_in_the_order_of_east_then_of_north(self):
        line = told(2, 1, 1, (0, 0), (0, 0, -2, 1), (0, 0, 2, -3), (0, 0, 9, 9)) + [reach(3)]
        self.assertEqual(last(*line), [4, -2, 1, 0, -2, 0, 0, 2, -3])

    def test_in_the_order_of_numbers_not_of_signs(self):
        line = told(2, 1, 1, (0, 0), (0, 0, -7, 9), (0, 0, -3, 3), (0, 0, 9, 9)) + [reach(3)]
        self.assertEqual(last(*line), [4, -10, 12, -7, 9, -3, 3, 0, 0])
        line = told(2, 1, 1, (0, 0), (0, 0, 0, -7), (0, 0, 0, -3), (0, 0, 9, 9)) + [reach(3)]
        self.assertEqual(last(*line), [4, 0, -10, 0, -7, 0, -3, 0, 0])

    def test_the_mark_does_not_count(self):
        for mark in ((0, 0), (2, 0), (-100, 100)):
            with self.subTest(mark=mark):
                self.assertEqual(last(*told(2, 1, 1, mark, *TWO_EAST), reach(2)), [2, 0, 0, 2, 0])

    def test_places_above_height_0_are_not_told(self):
        self.assertEqual(last(*told(2, 1, 1, (0, 0), (1, 1, 5, 5)), reach(1)), [1, 1, 1])
        self.assertEqual(last(*told(3, 2, 1, (0, 0), *[(0, 0, 1, 0, 7, 7)] * 3), reach(3)), [3, 0, 0, 1, 0, 2, 0])

    def test_without_sand_or_gas_it_stays_in_height_0(self):
        for sand, gas in ((0, 6), (6, 0), (0, 0)):
            with self.subTest(sand=sand, gas=gas):
                self.assertEqual(last(*told(2, sand, gas, (0, 0), *TWO_EAST), reach(3)), [1, 0, 0])

    def test_so_much_sand_and_gas_as_there_is(self):
        # Twice up and down is the only way to 5, 5.
        winds = ((0, 0, 5, 0), (0, 0, 1, 1), (0, 0, 0, 5), (0, 0, 0, 0))
        once = [0, 0, 0, 5, 1, 1, 1, 6, 5, 0, 6, 1, 6, 6]
        twice = [0, 0, 0, 5, 1, 1, 1, 6, 5, 0, 5, 5, 6, 1, 6, 6]
        self.assertEqual(last(*told(2, 2, 2, (0, 0), *winds), reach(4)), [8] + twice)
        self.assertEqual(last(*told(2, 1, 2, (0, 0), *winds), reach(4)), [7] + once)
        self.assertEqual(last(*told(2, 2, 1, (0, 0), *winds), reach(4)), [7] + once)


class ReachRefused(unittest.TestCase):
    def test_more_hours_than_are_told(self):
        for hours in range(7):
            for asked in (hours + 1, hours + 2, 7, LARGEST):
                with self.subTest(told=hours, asked=asked):
                    self.assertEqual(last(*told(1, 0, 0, (0, 0), *[(1, 2)] * hours), reach(asked)), [-1])
            with self.subTest(told=hours):
                line = told(1, 0, 0, (0, 0), *[(1, 2)] * hours) + [reach(hours)]
                self.assertEqual(last(*line), [1, hours, 2 * hours])

    def test_in_a_new_sky(self):
        self.assertEqual(answered(reach(1), reach(LARGEST), reach(0)), [[-1], [-1], [1, 0, 0]])

    def test_refused_leaves_all_as_it_was(self):
        line = told(2, 1, 1, (0, 0), *TWO_EAST) + [reach(4), reach(2), check(2, 0), hour(9, 9, 9, 9)]
        self.assertEqual(answered(*line)[4:], [[-1], [2, 0, 0, 2, 0], [4, 2, 0, 0, 0, 0], [3]])


if __name__ == "__main__":
    unittest.main()
