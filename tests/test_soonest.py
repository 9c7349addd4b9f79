"""Promise 2, of soonest."""

import unittest

from tests.lines import answered, check, hour, last, nearest, soonest, told

# Going up in the first hour and down in the second ends at 4, 0; staying ends at 1, 0.
UP_AND_DOWN = ((0, 0, 3, 0), (1, 0, 9, 9))

# Behind two hours one lands at 0, 0 or 2, 0; behind three at 2, 0, by two flights at 4, 0, or at 6, 0.
TWO_WAYS = ((0, 0, 2, 0), (0, 0, 2, 0), (2, 0, 0, 0))


class Soonest(unittest.TestCase):
    def test_no_hours_in_a_new_sky(self):
        self.assertEqual(last(soonest()), [0, 0, 1])

    def test_no_hours_where_the_mark_is_at_0_0(self):
        self.assertEqual(last(*told(3, 4, 2, (0, 0)), soonest()), [0, 4, 1])
        self.assertEqual(last(*told(3, 4, 2, (0, 0), (0,) * 6), soonest()), [0, 4, 1])
        self.assertEqual(last(*told(3, 4, 2, (0, 0), (1,) * 6, (-1,) * 6), soonest()), [0, 4, 1])

    def test_one_hour(self):
        self.assertEqual(last(*told(1, 0, 0, (3, -2), (3, -2)), soonest()), [1, 0, 1, 1])
        self.assertEqual(last(*told(2, 5, 1, (3, -2), (3, -2, 3, -2), (1, 1, 1, 1)), soonest()), [1, 5, 1, 1])

    def test_several_hours(self):
        self.assertEqual(last(*told(2, 1, 1, (4, 0), *UP_AND_DOWN), soonest()), [2, 0, 1, 2, 0])
        self.assertEqual(last(*told(1, 2, 0, (-5, -10), *[(-1, -2)] * 6), soonest()), [5, 2, 1, 1, 1, 1, 1, 1])

    def test_all_six_hours(self):
        line = told(4, 3, 3, (54, -54), *[(9, -9) * 4] * 6) + [soonest()]
        self.assertEqual(last(*line), [6, 3, 1, 1, 1, 1, 1, 1, 1])

    def test_fewest_hours_although_more_would_leave_as_much(self):
        self.assertEqual(last(*told(1, 2, 2, (3, 0), (3, 0), (0, 0), (0, 0)), soonest()), [1, 2, 1, 1])

    def test_fewest_hours_although_more_would_leave_more_sand(self):
        line = told(2, 1, 1, (5, 0), (0, 0, 5, 0), (0, 0, 0, 0), (5, 0, 0, 0)) + [soonest(), nearest(3)]
        self.assertEqual(answered(*line)[4:], [[2, 0, 1, 2, 0], [0, 1, 1, 1, 1, 1]])

    def test_fewest_hours_although_more_would_have_more_as_good(self):
        line = told(2, 1, 1, (2, 0), (0, 0, 2, 0), (0, 0, 2, 0), (0, 0, 0, 0)) + [soonest(), nearest(3)]
        self.assertEqual(answered(*line)[4:], [[2, 0, 1, 2, 0], [0, 0, 2, 1, 2, 0]])

    def test_several_as_good_and_the_earliest(self):
        self.assertEqual(last(*told(2, 1, 1, (4, 0), *TWO_WAYS), soonest()), [3, 0, 2, 1, 2, 0])
        self.assertEqual(last(*told(2, 4, 1, (4, 0), *TWO_WAYS), soonest()), [3, 3, 2, 1, 2, 0])

    def test_most_sand_left_of_those_in_as_many_hours(self):
        # Up, down, up, down is the earlier, but has thrown out more than up, stay, stay, down.
        winds = ((0, 0, 5, 0), (0, 0, 0, 0), (0, 0, 5, 0), (0, 0, 0, 0))
        self.assertEqual(last(*told(2, 2, 2, (10, 0), *winds), soonest()), [4, 1, 1, 2, 1, 1, 0])


class SoonestCannotBe(unittest.TestCase):
    def test_none_told_and_the_mark_elsewhere(self):
        for mark in ((1, 0), (0, 1), (-1, 0), (0, -1), (100, -100)):
            with self.subTest(mark=mark):
                self.assertEqual(last(*told(4, 6, 6, mark), soonest()), [-6])

    def test_not_in_any_hours_that_are_told(self):
        self.assertEqual(last(*told(1, 0, 0, (6, 6), *[(1, 1)] * 5), soonest()), [-6])
        self.assertEqual(last(*told(1, 0, 0, (6, 6), *[(1, 1)] * 6), soonest()), [6, 0, 1] + [1] * 6)
        self.assertEqual(last(*told(4, 6, 6, (100, 100), *[(9,) * 8] * 6), soonest()), [-6])

    def test_one_hour_more_makes_it_be(self):
        line = told(1, 0, 0, (2, 0), (1, 0)) + [soonest(), hour(10, 9), soonest()]
        self.assertEqual(answered(*line)[2:], [[-6], [1], [2, 0, 1, 1, 1]])

    def test_over_the_mark_but_not_in_height_0(self):
        self.assertEqual(last(*told(2, 1, 1, (3, 0), *UP_AND_DOWN), soonest()), [-6])

    def test_no_sand_or_no_gas(self):
        self.assertEqual(last(*told(2, 0, 6, (4, 0), *UP_AND_DOWN), soonest()), [-6])
        self.assertEqual(last(*told(2, 6, 0, (4, 0), *UP_AND_DOWN), soonest()), [-6])

    def test_right_on_the_mark_alone_counts(self):
        self.assertEqual(last(*told(1, 0, 0, (4, 1), (4, 0)), soonest()), [-6])
        self.assertEqual(last(*told(1, 0, 0, (4, 1), (3, 1)), soonest()), [-6])
        self.assertEqual(last(*told(1, 0, 0, (4, 1), (-4, -1)), soonest()), [-6])
        self.assertEqual(last(*told(1, 0, 0, (4, 1), (1, 4)), soonest()), [-6])

    def test_leaves_all_as_it_was(self):
        line = told(2, 1, 1, (5, 0), *UP_AND_DOWN) + [soonest(), check(2, 0), soonest(), hour(10, 9, 9, 9)]
        self.assertEqual(answered(*line)[3:], [[-6], [1, 4, 0, 0, 0, 0], [-6], [2]])


if __name__ == "__main__":
    unittest.main()
