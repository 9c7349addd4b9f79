"""Promise 1, of begins; and how a line begins."""

import unittest

from tests.lines import LARGEST, answered, begins, check, hour, last


class Begins(unittest.TestCase):
    def test_ordinary_call_answers_no_hours(self):
        self.assertEqual(last(begins(3, 2, 1, 120, 80)), [0])

    def test_what_is_told_is_what_holds(self):
        line = [begins(3, 2, 1, 120, 80), hour(9, 9, 9, 9, 9, 9), check(2)]
        self.assertEqual(last(*line), [20 * 20 + 20 * 20, 0, 0, 1, 1, 1])

    def test_sand_and_gas_are_not_mixed_up(self):
        self.assertEqual(last(begins(1, 5, 2), check()), [0, 0, 0, 0, 5, 2])

    def test_marks_two_numbers_are_not_mixed_up(self):
        line = [begins(1, 0, 0, 103, 100), hour(12, 9), check(1)]
        self.assertEqual(last(*line), [0, 3, 0, 0, 0, 0])
        line = [begins(1, 0, 0, 100, 103), hour(12, 9), check(1)]
        self.assertEqual(last(*line), [18, 3, 0, 0, 0, 0])

    def test_begins_amid_a_line_leaves_no_hours(self):
        line = [begins(), hour(9, 9), hour(9, 9), check(1, 1), begins(), check(1), hour(9, 9)]
        self.assertEqual(answered(*line)[4:], [[0], [-1], [0]])

    def test_begins_amid_a_line_tells_all_anew(self):
        line = [begins(4, 6, 5, 150, 150), begins(2, 1, 0, 100, 101), hour(9, 9, 9, 9), check(2)]
        self.assertEqual(last(*line), [1, 0, 0, 1, 0, 0])


class BeginsRefused(unittest.TestCase):
    def test_heights(self):
        for heights in (0, 5, 6, LARGEST):
            with self.subTest(heights=heights):
                self.assertEqual(last(begins(heights=heights)), [-1])

    def test_heights_just_inside(self):
        for heights in (1, 2, 3, 4):
            with self.subTest(heights=heights):
                winds = [9, 9] * heights
                self.assertEqual(answered(begins(heights=heights), hour(*winds)), [[0], [0]])

    def test_sand(self):
        for sand in (7, 8, LARGEST):
            with self.subTest(sand=sand):
                self.assertEqual(last(begins(sand=sand)), [-1])

    def test_gas(self):
        for gas in (7, 8, LARGEST):
            with self.subTest(gas=gas):
                self.assertEqual(last(begins(gas=gas)), [-1])

    def test_sand_and_gas_just_inside(self):
        for sand, gas in ((0, 6), (6, 0), (6, 6), (0, 0)):
            with self.subTest(sand=sand, gas=gas):
                line = [begins(sand=sand, gas=gas), check()]
                self.assertEqual(answered(*line), [[0], [0, 0, 0, 0, sand, gas]])

    def test_mark_east(self):
        for east in (201, 202, LARGEST):
            with self.subTest(east=east):
                self.assertEqual(last(begins(east=east)), [-1])

    def test_mark_north(self):
        for north in (201, 202, LARGEST):
            with self.subTest(north=north):
                self.assertEqual(last(begins(north=north)), [-1])

    def test_mark_just_inside(self):
        for east in (0, 200):
            for north in (0, 200):
                with self.subTest(east=east, north=north):
                    line = [begins(east=east, north=north), check()]
                    self.assertEqual(answered(*line), [[0], [20000, 0, 0, 0, 0, 0]])

    def test_all_numbers_largest(self):
        self.assertEqual(last(begins(LARGEST, LARGEST, LARGEST, LARGEST, LARGEST)), [-1])

    def test_refused_leaves_all_as_it_was(self):
        told = [begins(2, 3, 4, 101, 98), hour(9, 9, 11, 8)]
        behind = [check(), check(2), hour(9, 9, 9, 9)]
        for refused in (begins(0), begins(5), begins(1, 7), begins(1, 0, 7),
                        begins(1, 0, 0, 201), begins(1, 0, 0, 0, 201)):
            with self.subTest(refused=refused):
                self.assertEqual(
                    answered(*told, refused, *behind)[2:],
                    [[-1], [5, 0, 0, 0, 3, 4], [2, 2, -1, 1, 2, 4], [1]],
                )

    def test_refused_first_leaves_the_line_as_it_begins(self):
        line = [begins(4, 6, 7, 1, 1), check(), hour(9, 9)]
        self.assertEqual(answered(*line), [[-1], [0, 0, 0, 0, 0, 0], [0]])


class LineBegins(unittest.TestCase):
    def test_no_sand_no_gas_mark_at_zero(self):
        self.assertEqual(last(check()), [0, 0, 0, 0, 0, 0])

    def test_no_hours(self):
        self.assertEqual(last(check(1)), [-1])
        self.assertEqual(last(hour(9, 9)), [0])

    def test_one_height(self):
        self.assertEqual(last(hour(9, 9), check(2)), [-6, 0, 1])
        self.assertEqual(last(hour(9, 9, 9, 9)), [-1])


if __name__ == "__main__":
    unittest.main()
