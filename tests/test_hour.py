"""Promise 1, of hour."""

import unittest

from tests.lines import LARGEST, answered, begins, check, hour, last


class Hour(unittest.TestCase):
    def test_numbers_from_0_to_5(self):
        line = [begins(2)] + [hour(9, 9, 9, 9)] * 6
        self.assertEqual(answered(*line), [[0], [0], [1], [2], [3], [4], [5]])

    def test_before_any_begins(self):
        line = [hour(10, 7), check(1)]
        self.assertEqual(answered(*line), [[0], [5, 1, -2, 0, 0, 0]])

    def test_each_height_has_its_own_two_numbers(self):
        told = [begins(4, 6, 6), hour(*[9] * 8), hour(*[9] * 8), hour(*[9] * 8),
                hour(10, 11, 12, 13, 14, 15, 16, 17)]
        places = [last(*told, check(*moves))[1:4] for moves in
                  ((1, 1, 1, 1), (2, 1, 1, 1), (2, 2, 1, 1), (2, 2, 2, 1))]
        self.assertEqual(places, [[1, 2, 0], [3, 4, 1], [5, 6, 2], [7, 8, 3]])

    def test_each_hour_has_its_own_winds(self):
        told = [begins(), hour(10, 9), hour(9, 13), hour(0, 0)]
        places = [last(*told, check(*[1] * hours))[1:3] for hours in range(4)]
        self.assertEqual(places, [[0, 0], [1, 0], [1, 4], [-8, -5]])


class HourRefused(unittest.TestCase):
    def test_not_two_numbers_for_each_height(self):
        for heights in (1, 2, 3, 4):
            for numbers in range(11):
                with self.subTest(heights=heights, numbers=numbers):
                    wanted = [0] if numbers == 2 * heights else [-1]
                    self.assertEqual(last(begins(heights), hour(*[9] * numbers)), wanted)

    def test_no_numbers(self):
        self.assertEqual(last(hour()), [-1])
        self.assertEqual(last(begins(2), hour()), [-1])

    def test_one_told_above_18(self):
        for place in range(6):
            for told in (19, 20, LARGEST):
                with self.subTest(place=place, told=told):
                    winds = [9] * 6
                    winds[place] = told
                    self.assertEqual(last(begins(3), hour(*winds)), [-1])

    def test_18_and_0_just_inside(self):
        line = [begins(), hour(18, 0), hour(0, 18), hour(18, 18), hour(0, 0), hour(18, 0), check(1)]
        self.assertEqual(answered(*line), [[0], [0], [1], [2], [3], [4], [162, 9, -9, 0, 0, 0]])

    def test_seventh_hour(self):
        line = [begins()] + [hour(9, 9)] * 6 + [hour(9, 9), hour(9, 9)]
        self.assertEqual(answered(*line)[6:], [[5], [-5], [-5]])

    def test_wrong_numbers_ahead_of_too_many_hours(self):
        told = [begins(2)] + [hour(9, 9, 9, 9)] * 6
        for winds in ((), (9, 9), (9, 9, 9), (9,) * 6, (19, 9, 9, 9), (9, 9, 9, LARGEST)):
            with self.subTest(winds=winds):
                self.assertEqual(last(*told, hour(*winds)), [-1])

    def test_refused_leaves_all_as_it_was(self):
        told = [begins(2, 1, 1, 100, 100), hour(10, 9, 9, 10)]
        for refused in (hour(), hour(9), hour(9, 9), hour(9, 9, 9), hour(9, 9, 9, 9, 9), hour(9, 9, 9, 19)):
            with self.subTest(refused=refused):
                line = told + [refused, check(1, 1), check(1), hour(9, 9, 9, 9)]
                self.assertEqual(answered(*line)[2:], [[-1], [-1], [1, 1, 0, 0, 1, 1], [1]])

    def test_refused_seventh_leaves_all_as_it_was(self):
        line = [begins()] + [hour(10, 9)] * 6 + [hour(9, 18), check(*[1] * 6), check(*[1] * 7)]
        self.assertEqual(answered(*line)[7:], [[-5], [36, 6, 0, 0, 0, 0], [-1]])


if __name__ == "__main__":
    unittest.main()
