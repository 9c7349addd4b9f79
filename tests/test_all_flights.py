"""Promise 2, of nearest, soonest and reach, against all flights flown one by one by the words."""

import itertools
import unittest

from tests.lines import answered, begins, check, flown_by_the_words, hour, last, nearest, reach, soonest, told


def made_winds(heights, hours, seed, most):
    """Winds for some hours, as they are, from -most to most: the same ones each time for a seed."""
    made = []
    number = seed
    for place in range(2 * heights * hours):
        number = (number * 1103515245 + 12345) % 2147483648
        made.append(number // 65536 % (2 * most + 1) - most)
    return [tuple(made[2 * heights * k:2 * heights * (k + 1)]) for k in range(hours)]


class SkyByTheWords:
    """All flights of a sky that land, and what is answered by them."""

    def __init__(self, heights, sand, gas, mark, winds):
        self.hours = len(winds)
        winds_told = [[number + 9 for number in row] for row in winds]
        self.landings = []
        for hours in range(len(winds) + 1):
            flights = itertools.product(range(3), repeat=hours)
            flown = [(flown_by_the_words(heights, sand, gas, mark, winds_told, moves), moves) for moves in flights]
            self.landings.append([(end, moves) for end, moves in flown if end[0] >= 0 and end[3] == 0])

    def best(self, hours):
        """How far, then what nearest and soonest tell alike."""
        far, sand = min((end[0], -end[4]) for end, moves in self.landings[hours])
        as_good = sorted(moves for end, moves in self.landings[hours] if (end[0], -end[4]) == (far, sand))
        return far, [-sand, len(as_good), *as_good[0]]

    def nearest(self, hours):
        far, rest = self.best(hours)
        return [far] + rest

    def soonest(self):
        for hours in range(self.hours + 1):
            far, rest = self.best(hours)
            if far == 0:
                return [hours] + rest
        return [-6]

    def reach(self, hours):
        places = sorted({(end[1], end[2]) for end, moves in self.landings[hours]})
        return [len(places)] + [number for place in places for number in place]


class AllFlights(unittest.TestCase):
    def compare(self, heights, sand, gas, mark, winds):
        by_the_words = SkyByTheWords(heights, sand, gas, mark, winds)
        line = told(heights, sand, gas, mark, *winds)
        with self.subTest(heights=heights, sand=sand, gas=gas, mark=mark, winds=winds):
            self.assertEqual(last(*line, soonest()), by_the_words.soonest())
            for hours in range(len(winds) + 1):
                self.assertEqual(answered(*line, nearest(hours), reach(hours))[-2:],
                                 [by_the_words.nearest(hours), by_the_words.reach(hours)])

    def test_small_skies(self):
        seeds = itertools.count(1)
        for heights, sand, gas, hours in itertools.product((1, 2, 3), (0, 1, 2), (0, 1, 2), (1, 3, 4)):
            seed = next(seeds)
            # Weak winds make many flights end as far as others.
            self.compare(heights, sand, gas, (seed % 3, seed % 4 - 2), made_winds(heights, hours, seed, 1))

    def test_largest_skies(self):
        for seed, most in itertools.product(range(3), (1, 3, 9)):
            self.compare(4, 6, 6, (5 * seed - 7, 3 - 4 * seed), made_winds(4, 6, seed, most))

    def test_six_hours_with_little_sand_or_gas(self):
        for seed, (sand, gas) in enumerate(((1, 6), (2, 6), (6, 1), (6, 2), (3, 3), (2, 3))):
            self.compare(4, sand, gas, (3, -3), made_winds(4, 6, seed, 2))


class SkyStaysAsItIs(unittest.TestCase):
    WINDS = ((0, 0, 3, 0), (1, 0, 9, 9))

    def asked_behind(self, *calls):
        """What is answered behind some calls that should change nothing."""
        line = told(2, 1, 1, (4, 0), *self.WINDS) + list(calls)
        asked = [nearest(2), soonest(), reach(2), check(2, 0), check(), hour(9, 9, 9, 9)]
        return answered(*line, *asked)[-len(asked):]

    def test_none_of_the_three_changes_the_sky(self):
        expected = [[0, 0, 1, 2, 0], [2, 0, 1, 2, 0], [2, 1, 0, 4, 0], [0, 4, 0, 0, 0, 0], [16, 0, 0, 0, 1, 1], [2]]
        self.assertEqual(self.asked_behind(), expected)
        for call in (nearest(2), nearest(1), nearest(3), soonest(), reach(2), reach(0), reach(3)):
            with self.subTest(call=call):
                self.assertEqual(self.asked_behind(call), expected)
        self.assertEqual(self.asked_behind(nearest(2), soonest(), reach(2)), expected)

    def test_the_same_call_again_gives_the_same(self):
        for call in (nearest(2), soonest(), reach(2)):
            with self.subTest(call=call):
                given = answered(*told(2, 1, 1, (4, 0), *self.WINDS), call, call, call)[3:]
                self.assertEqual(given, [given[0]] * 3)

    def test_begins_behind_them_leaves_no_hours(self):
        line = told(2, 1, 1, (4, 0), *self.WINDS) + [nearest(2), soonest(), reach(2)]
        line = line + [begins(2, 1, 1, 104, 100), nearest(1), soonest(), reach(1), check(1), hour(9, 9, 9, 9)]
        self.assertEqual(answered(*line)[6:], [[0], [-1], [-6], [-1], [-1], [0]])

    def test_a_refused_begins_leaves_the_hours(self):
        line = told(2, 1, 1, (4, 0), *self.WINDS) + [begins(5, 6, 6, 100, 100), nearest(2), soonest(), reach(2)]
        self.assertEqual(answered(*line)[3:], [[-1], [0, 0, 1, 2, 0], [2, 0, 1, 2, 0], [2, 1, 0, 4, 0]])


if __name__ == "__main__":
    unittest.main()
