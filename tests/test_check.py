"""Promise 2, of check."""

import itertools
import unittest

from tests.lines import LARGEST, answered, begins, check, flown_by_the_words, hour, last

# Three heights; the wind in each is another one in each hour.
WINDS = (
    (10, 9, 9, 11, 12, 12),
    (9, 5, 14, 9, 9, 15),
    (2, 9, 9, 1, 0, 18),
)


def sky(heights, sand, gas, east=100, north=100):
    return [begins(heights, sand, gas, east, north)] + [hour(*winds[:2 * heights]) for winds in WINDS]


class Check(unittest.TestCase):
    def test_ends_in_height_0(self):
        # up into 0, +2; as it is, +5, 0; down, -7, 0.
        self.assertEqual(last(*sky(3, 2, 2), check(2, 1, 0)), [8, -2, 2, 0, 1, 1])

    def test_ends_above(self):
        # up, 0, +2; up, 0, +6; as it is, -9, +9.
        self.assertEqual(last(*sky(3, 2, 2), check(2, 2, 1)), [81 + 289, -9, 17, 2, 0, 2])

    def test_stays_in_height_0(self):
        self.assertEqual(last(*sky(3, 0, 0), check(1, 1, 1)), [36 + 16, -6, -4, 0, 0, 0])

    def test_no_hours(self):
        self.assertEqual(last(*sky(3, 1, 2, 103, 104), check()), [25, 0, 0, 0, 1, 2])
        self.assertEqual(last(check()), [0, 0, 0, 0, 0, 0])

    def test_fewer_hours_than_are_told(self):
        self.assertEqual(last(*sky(3, 1, 1), check(2)), [4, 0, 2, 1, 0, 1])
        self.assertEqual(last(*sky(3, 1, 1), check(2, 0)), [4, 0, -2, 0, 0, 0])

    def test_the_move_is_made_ahead_of_the_wind(self):
        line = [begins(2, 1, 0), hour(0, 0, 11, 10), check(2)]
        self.assertEqual(last(*line), [5, 2, 1, 1, 0, 0])

    def test_winds_below_0(self):
        line = [begins(1, 0, 0), hour(0, 0), hour(8, 7), check(1, 1)]
        self.assertEqual(last(*line), [100 + 121, -10, -11, 0, 0, 0])

    def test_mark_below_0(self):
        line = [begins(1, 0, 0, 90, 89), hour(0, 0), hour(8, 7), check(1, 1), check(1), check()]
        self.assertEqual(answered(*line)[3:], [[0, -10, -11, 0, 0, 0], [5, -9, -9, 0, 0, 0],
                                               [221, 0, 0, 0, 0, 0]])

    def test_farthest(self):
        line = [begins(1, 0, 0, 0, 200)] + [hour(18, 0)] * 6 + [check(*[1] * 6)]
        self.assertEqual(last(*line), [2 * 154 * 154, 54, -54, 0, 0, 0])

    def test_check_changes_nothing(self):
        line = sky(3, 1, 1) + [check(2, 0), check(2, 0), check(2, 2), check(2, 0), check()]
        landed = [4, 0, -2, 0, 0, 0]
        self.assertEqual(answered(*line)[4:], [landed, landed, [-6, 1, 2], landed, [0, 0, 0, 0, 1, 1]])

    def test_sand_is_not_had_back_by_sinking(self):
        line = [begins(2, 1, 3)] + [hour(9, 9, 9, 9)] * 3 + [check(2, 0, 2)]
        self.assertEqual(last(*line), [-6, 2, 2])

    def test_most_that_can_be_used(self):
        line = [begins(4, 6, 6)] + [hour(*[9] * 8)] * 6 + [check(2, 2, 2, 0, 0, 0), check(2, 0, 2, 0, 2, 0)]
        self.assertEqual(answered(*line)[7:], [[0, 0, 0, 0, 3, 3], [0, 0, 0, 0, 3, 3]])


class CheckRefused(unittest.TestCase):
    def test_more_hours_than_are_told(self):
        for told in range(7):
            for flown in range(9):
                with self.subTest(told=told, flown=flown):
                    line = [begins()] + [hour(9, 9)] * told + [check(*[1] * flown)]
                    self.assertEqual(last(*line), [-1] if flown > told else [0] * 6)

    def test_a_move_above_2(self):
        for place in range(3):
            for move in (3, 4, LARGEST):
                with self.subTest(place=place, move=move):
                    moves = [1, 1, 1]
                    moves[place] = move
                    self.assertEqual(last(*sky(3, 2, 2), check(*moves)), [-1])

    def test_ahead_of_what_is_wrong_in_an_hour(self):
        self.assertEqual(last(*sky(3, 2, 2), check(0, 1, 3)), [-1])
        self.assertEqual(last(*sky(3, 2, 2), check(0, 1, 1, 1)), [-1])

    def test_refused_leaves_all_as_it_was(self):
        for refused, answer in ((check(3), [-1]), (check(1, 1, 1, 1), [-1]), (check(2, 2), [-6, 1, 2])):
            with self.subTest(refused=refused):
                line = sky(3, 1, 1, 101, 99) + [refused, check(), check(2, 0), hour(*[9] * 6)]
                self.assertEqual(answered(*line)[4:], [answer, [2, 0, 0, 0, 1, 1], [2, 0, -2, 0, 0, 0], [3]])


class CheckCannotBe(unittest.TestCase):
    def test_below_height_0(self):
        self.assertEqual(last(*sky(3, 2, 2), check(0)), [-6, 0, 1])
        self.assertEqual(last(*sky(3, 2, 2), check(1, 0)), [-6, 1, 1])
        self.assertEqual(last(*sky(3, 2, 2), check(2, 0, 0)), [-6, 2, 1])

    def test_above_the_top_height(self):
        self.assertEqual(last(*sky(1, 6, 6), check(2)), [-6, 0, 1])
        self.assertEqual(last(*sky(2, 6, 6), check(2, 2)), [-6, 1, 1])
        self.assertEqual(last(*sky(2, 6, 6), check(2, 1, 2)), [-6, 2, 1])
        line = [begins(4, 6, 6)] + [hour(*[9] * 8)] * 4 + [check(2, 2, 2), check(2, 2, 2, 2)]
        self.assertEqual(answered(*line)[5:], [[0, 0, 0, 3, 3, 6], [-6, 3, 1]])

    def test_no_sand_left(self):
        self.assertEqual(last(*sky(3, 0, 2), check(2)), [-6, 0, 2])
        self.assertEqual(last(*sky(3, 1, 2), check(2, 1, 2)), [-6, 2, 2])

    def test_no_gas_left(self):
        self.assertEqual(last(*sky(3, 2, 0), check(2, 0)), [-6, 1, 3])
        self.assertEqual(last(*sky(3, 2, 1), check(2, 0)), [4, 0, -2, 0, 1, 0])
        line = [begins(3, 2, 1)] + [hour(*[9] * 6)] * 4 + [check(2, 2, 0, 0)]
        self.assertEqual(last(*line), [-6, 3, 3])

    def test_no_such_height_and_no_sand(self):
        self.assertEqual(last(*sky(1, 0, 0), check(2)), [-6, 0, 1])
        self.assertEqual(last(*sky(2, 1, 0), check(2, 2)), [-6, 1, 1])

    def test_no_such_height_and_no_gas(self):
        self.assertEqual(last(*sky(3, 2, 0), check(0)), [-6, 0, 1])
        self.assertEqual(last(*sky(3, 2, 1), check(2, 0, 0)), [-6, 2, 1])

    def test_the_first_hour_in_which_something_is_wrong(self):
        self.assertEqual(last(*sky(2, 1, 0), check(2, 0, 2)), [-6, 1, 3])
        self.assertEqual(last(*sky(2, 1, 0), check(2, 2, 0)), [-6, 1, 1])
        self.assertEqual(last(*sky(3, 0, 0), check(1, 2, 0)), [-6, 1, 2])


class CheckAllSmallFlights(unittest.TestCase):
    def test_all_flights_of_up_to_three_hours(self):
        for heights, sand, gas in itertools.product((1, 2, 3), range(4), range(4)):
            for hours in range(4):
                for moves in itertools.product(range(3), repeat=hours):
                    with self.subTest(heights=heights, sand=sand, gas=gas, moves=moves):
                        self.assertEqual(last(*sky(heights, sand, gas, 97, 102), check(*moves)),
                                         flown_by_the_words(heights, sand, gas, (-3, 2), WINDS, moves))


if __name__ == "__main__":
    unittest.main()
