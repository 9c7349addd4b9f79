"""Promise 2, of nearest, and what the words say of landings."""

import unittest

from tests.lines import LARGEST, answered, check, hour, last, nearest, told

# Going up in the first hour and down in the second ends at 4, 0; staying ends at 1, 0.
UP_AND_DOWN = ((0, 0, 3, 0), (1, 0, 9, 9))

# Each hour in height 1 carries by 2 to the east; in height 0 there is no wind.
TWO_EAST = ((0, 0, 2, 0),) * 3

# Only who is in height 1 in the first hour and in the third ends at 10, 0.
FIRST_AND_THIRD = ((0, 0, 5, 0), (0, 0, 0, 0), (0, 0, 5, 0), (0, 0, 0, 0))

# Only the heights 1, 2, 3, 2, 1, 0 have a wind in their hours.
OVER_THE_TOP = tuple(
    tuple(number for level in range(4) for number in ((9, -9) if level == windy else (0, 0)))
    for windy in (1, 2, 3, 2, 1, 0)
)


class Nearest(unittest.TestCase):
    def test_no_hours_in_a_new_sky(self):
        self.assertEqual(last(nearest(0)), [0, 0, 1])

    def test_no_hours_with_hours_told_and_the_mark_elsewhere(self):
        self.assertEqual(last(*told(2, 3, 1, (3, -4), (1, 1, 2, 2)), nearest(0)), [25, 3, 1])

    def test_fewer_hours_than_are_told(self):
        line = told(1, 0, 0, (5, 0), (5, 0), (5, 0)) + [nearest(1), nearest(2)]
        self.assertEqual(answered(*line)[3:], [[0, 0, 1, 1], [25, 0, 1, 1, 1]])

    def test_all_six_hours(self):
        line = told(4, 6, 6, (54, -54), *OVER_THE_TOP) + [nearest(6)]
        self.assertEqual(last(*line), [0, 3, 1, 2, 2, 2, 0, 0, 0])

    def test_one_height_alone(self):
        line = told(1, 6, 6, (3, 0), *[(1, 1)] * 6) + [nearest(4), nearest(6)]
        self.assertEqual(answered(*line)[7:], [[17, 6, 1, 1, 1, 1, 1], [45, 6, 1, 1, 1, 1, 1, 1, 1]])

    def test_mark_and_winds_below_0(self):
        line = told(2, 1, 1, (-7, -10), (-1, -2, -4, -5), (-2, -6, 9, 9)) + [nearest(1), nearest(2)]
        # Staying ends at -3, -8, going up and down at -6, -11.
        self.assertEqual(answered(*line)[3:], [[100, 1, 1, 1], [2, 0, 1, 2, 0]])

    def test_farthest(self):
        line = told(1, 0, 0, (-100, 100), *[(9, -9)] * 6) + [nearest(6)]
        self.assertEqual(last(*line), [2 * 154 * 154, 0, 1, 1, 1, 1, 1, 1, 1])


class NearestOfSeveral(unittest.TestCase):
    def test_nearer_by_going_up_and_down_than_by_staying(self):
        # Staying would leave more sand, but how far it is comes first.
        self.assertEqual(last(*told(2, 3, 1, (4, 0), *UP_AND_DOWN), nearest(2)), [0, 2, 1, 2, 0])
        self.assertEqual(last(*told(2, 3, 1, (3, 1), *UP_AND_DOWN), nearest(2)), [2, 2, 1, 2, 0])

    def test_nearer_by_staying(self):
        self.assertEqual(last(*told(2, 3, 1, (2, 0), *UP_AND_DOWN), nearest(2)), [1, 3, 1, 1, 1])

    def test_most_sand_left_of_those_at_one_place(self):
        # Up, down, up, down is the earlier, but has thrown out more than up, stay, stay, down.
        self.assertEqual(last(*told(2, 2, 2, (10, 0), *FIRST_AND_THIRD), nearest(4)), [0, 1, 1, 2, 1, 1, 0])

    def test_most_sand_left_of_those_as_far_at_several_places(self):
        line = told(2, 1, 1, (0, 0), (1, 0, -1, 0), (0, 0, 0, 0)) + [nearest(2)]
        self.assertEqual(last(*line), [1, 1, 1, 1, 1])

    def test_several_as_good_at_one_place(self):
        self.assertEqual(last(*told(2, 1, 1, (2, 0), *TWO_EAST), nearest(3)), [0, 0, 2, 1, 2, 0])
        self.assertEqual(last(*told(2, 6, 6, (2, 0), *TWO_EAST), nearest(3)), [0, 5, 2, 1, 2, 0])

    def test_several_as_good_at_several_places(self):
        # 2, 0 is reached by two flights, 4, 0 by one.
        self.assertEqual(last(*told(2, 1, 1, (3, 0), *TWO_EAST), nearest(3)), [1, 0, 3, 1, 2, 0])

    def test_the_earlier_is_told_by_the_first_hour_in_which_they_differ(self):
        # Landed at 4, 0 behind an hour less or more of height 1 in the middle; 2, 0 comes ahead of 2, 1.
        winds = ((0, 0, 4, 0), (0, 0, 0, 0), (0, 0, 0, 0), (0, 0, 0, 0))
        self.assertEqual(last(*told(2, 1, 1, (4, 0), *winds), nearest(4)), [0, 0, 3, 2, 0, 1, 1])

    def test_with_less_sand_they_are_not_as_good(self):
        # All end at 0, 0, but only who stays has all the sand.
        self.assertEqual(last(*told(4, 6, 6, (0, 0), *[(0,) * 8] * 6), nearest(6)), [0, 6, 1, 1, 1, 1, 1, 1, 1])


class NearestThatCannotBe(unittest.TestCase):
    def test_ends_above_height_0(self):
        line = told(2, 1, 1, (5, 5), (0, 0, 5, 5), (0, 0, 0, 0)) + [nearest(1), nearest(2)]
        self.assertEqual(answered(*line)[3:], [[50, 1, 1, 1], [0, 0, 1, 2, 0]])

    def test_no_sand_at_all(self):
        self.assertEqual(last(*told(2, 0, 6, (4, 0), *UP_AND_DOWN), nearest(2)), [9, 0, 1, 1, 1])

    def test_no_gas_at_all(self):
        self.assertEqual(last(*told(2, 6, 0, (4, 0), *UP_AND_DOWN), nearest(2)), [9, 6, 1, 1, 1])

    def test_no_sand_or_no_gas_left_for_the_second_time(self):
        # Twice up and down is the only way to 10, 0.
        winds = ((0, 0, 5, 0), (0, 0, 9, 9), (0, 0, 5, 0), (0, 0, 0, 0))
        for sand, gas, answer in (
            (2, 2, [0, 0, 1, 2, 0, 2, 0]),
            (1, 2, [25, 0, 2, 1, 1, 2, 0]),
            (2, 1, [25, 1, 2, 1, 1, 2, 0]),
        ):
            with self.subTest(sand=sand, gas=gas):
                self.assertEqual(last(*told(2, sand, gas, (10, 0), *winds), nearest(4)), answer)

    def test_above_the_top_height(self):
        # A third height would have the wind that leads to the mark.
        line = told(2, 6, 6, (9, 9), *[(0, 0, 1, 0)] * 4) + [nearest(4)]
        self.assertEqual(last(*line), [36 + 81, 5, 1, 2, 1, 1, 0])


class NearestRefused(unittest.TestCase):
    def test_more_hours_than_are_told(self):
        for hours in range(7):
            for asked in (hours + 1, hours + 2, 7, LARGEST):
                with self.subTest(told=hours, asked=asked):
                    self.assertEqual(last(*told(1, 0, 0, (0, 0), *[(0, 0)] * hours), nearest(asked)), [-1])
            with self.subTest(told=hours):
                line = told(1, 0, 0, (0, 0), *[(0, 0)] * hours) + [nearest(hours)]
                self.assertEqual(last(*line), [0, 0, 1] + [1] * hours)

    def test_in_a_new_sky(self):
        self.assertEqual(answered(nearest(1), nearest(LARGEST), nearest(0)), [[-1], [-1], [0, 0, 1]])

    def test_refused_leaves_all_as_it_was(self):
        line = told(2, 1, 1, (4, 0), *UP_AND_DOWN) + [nearest(3), nearest(2), check(2, 0), hour(9, 9, 9, 9)]
        self.assertEqual(answered(*line)[3:], [[-1], [0, 0, 1, 2, 0], [0, 4, 0, 0, 0, 0], [2]])


if __name__ == "__main__":
    unittest.main()
