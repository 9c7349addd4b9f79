"""The interface: how calls and answers stand in their lists, and what answers leaves alone."""

import contextlib
import io
import unittest

from tests.lines import LARGEST, begins, check, hour, nearest, reach, soonest
from windheights.balloon import answers

LINE = (
    begins(2, 1, 1, 98, 103)
    + hour(9, 9, 8, 10)
    + hour(9)
    + hour(7, 11, 9, 9)
    + check(2, 0)
    + check(2, 2)
    + check(1, 1, 1)
    + check()
    + nearest(2)
    + soonest()
    + reach(2)
    + nearest(3)
    + reach(3)
    + begins(5)
    + begins()
    + check(1)
    + soonest()
)

ANSWERS = (
    [1, 0]
    + [1, 0]
    + [1, -1]
    + [1, 1]
    + [6, 1, -3, 3, 0, 0, 0]
    + [3, -6, 1, 1]
    + [1, -1]
    + [6, 13, 0, 0, 0, 1, 1]
    + [5, 1, 1, 1, 1, 1]
    + [1, -6]
    + [5, 2, -3, 3, -2, 2]
    + [1, -1]
    + [1, -1]
    + [1, -1]
    + [1, 0]
    + [1, -1]
    + [3, 0, 0, 1]
)


class Answers(unittest.TestCase):
    def test_one_call(self):
        self.assertEqual(answers([0, 1, 0, 0, 100, 100]), [1, 0])
        self.assertEqual(answers([1, 2, 9, 9]), [1, 0])
        self.assertEqual(answers([2, 0]), [6, 0, 0, 0, 0, 0, 0])
        self.assertEqual(answers([3, 0]), [3, 0, 0, 1])
        self.assertEqual(answers([4]), [3, 0, 0, 1])
        self.assertEqual(answers([5, 0]), [3, 1, 0, 0])

    def test_all_six_calls_with_a_count_before_each_answer(self):
        self.assertEqual(answers(list(LINE)), ANSWERS)

    def test_hours_are_not_taken_for_calls(self):
        line = [1, 2, 9, 9] * 6 + [3, 4, 5, 4, 3, 5, 4, 5, 3, 4]
        self.assertEqual(answers(line)[12:], [7, 0, 0, 1, 1, 1, 1, 1, 3, 1, 0, 0, 8, 0, 0, 1, 1, 1, 1, 1, 1,
                                              3, 0, 0, 1, 3, 1, 0, 0, 3, 0, 0, 1])

    def test_six_searches_in_the_largest_sky(self):
        # In each height the wind is as strong as its number; only by the top is 9, 0 reached.
        line = begins(4, 6, 6, 109, 100) + hour(9, 9, 10, 9, 11, 9, 12, 9) * 6
        places = [number for east in range(10) for number in (east, 0)]
        over_the_top = [3, 1, 2, 2, 2, 0, 0, 0]
        three = [9, 0] + over_the_top + [9, 6] + over_the_top + [21, 10] + places
        told = [1, 0, 1, 0, 1, 1, 1, 2, 1, 3, 1, 4, 1, 5]
        self.assertEqual(answers(line + (nearest(6) + soonest() + reach(6)) * 2), told + three * 2)

    def test_longest_rows(self):
        line = [1, 10] + [9] * 10 + [2, 8] + [1] * 8 + [1, 0] + [1, 2, 9, 9]
        self.assertEqual(answers(line), [1, -1, 1, -1, 1, -1, 1, 0])

    def test_numbers_of_rows_are_not_taken_for_calls(self):
        line = [1, 2, 2, 0] + [2, 1, 1] + [0, 1, 1, 2, 0, 1] + [2, 0]
        self.assertEqual(answers(line), [1, 0, 6, 130, -7, -9, 0, 0, 0, 1, 0, 6, 19801, 0, 0, 0, 1, 2])

    def test_largest_numbers(self):
        line = [0] + [LARGEST] * 5 + [1, 2, LARGEST, LARGEST] + [2, 1, LARGEST] + [3, LARGEST] + [5, LARGEST]
        self.assertEqual(answers(line), [1, -1] * 5)

    def test_forty_calls(self):
        self.assertEqual(answers([2, 0] * 40), [6, 0, 0, 0, 0, 0, 0] * 40)

    def test_longest_line(self):
        line = ([1, 10] + [9] * 10) * 40
        self.assertEqual(len(line), 480)
        self.assertEqual(answers(line), [1, -1] * 40)


class LeftAlone(unittest.TestCase):
    def test_what_is_handed_in_is_the_same_behind_the_call(self):
        line = list(LINE)
        answers(line)
        self.assertEqual(line, LINE)

    def test_what_is_handed_in_is_never_changed(self):
        class Unchanging(list):
            def refuse(self, *args, **kwargs):
                raise AssertionError("what is handed in is changed")

            append = clear = extend = insert = pop = remove = reverse = sort = refuse
            __setitem__ = __delitem__ = __iadd__ = __imul__ = refuse

        self.assertEqual(answers(Unchanging(LINE)), ANSWERS)

    def test_one_behind_the_other_give_the_same(self):
        first = answers(list(LINE))
        second = answers(list(LINE))
        self.assertEqual(first, second)
        self.assertIsNot(first, second)

    def test_nothing_is_kept_from_a_line_that_is_left_open(self):
        answers(begins(4, 6, 6, 0, 0) + hour(*[0] * 8) * 6)
        self.assertEqual(answers(check() + check(1) + hour(9, 9)), [6, 0, 0, 0, 0, 0, 0, 1, -1, 1, 0])

    def test_changing_what_is_given_back_changes_no_later_answer(self):
        answers(list(LINE)).clear()
        self.assertEqual(answers(list(LINE)), ANSWERS)

    def test_a_list_of_whole_numbers_is_given_back(self):
        given = answers(list(LINE))
        self.assertIs(type(given), list)
        self.assertEqual({type(number) for number in given}, {int})

    def test_nothing_is_printed(self):
        out = io.StringIO()
        with contextlib.redirect_stdout(out), contextlib.redirect_stderr(out):
            answers(list(LINE))
        self.assertEqual(out.getvalue(), "")


if __name__ == "__main__":
    unittest.main()
