"""Lines of calls as the tests write them, their answers call by call, and flights flown by the words."""

import itertools

from windheights.balloon import answers

LARGEST = 4294967295


def begins(heights=1, sand=0, gas=0, east=100, north=100):
    return [0, heights, sand, gas, east, north]


def hour(*winds):
    """Winds as they are told, with 9 added."""
    return [1, len(winds), *winds]


def told(heights, sand, gas, mark, *hours):
    """The calls that tell a sky; the mark and the winds as they are, with nothing added yet."""
    calls = [begins(heights, sand, gas, mark[0] + 100, mark[1] + 100)]
    return calls + [hour(*[number + 9 for number in winds]) for winds in hours]


def check(*moves):
    return [2, len(moves), *moves]


def nearest(hours):
    return [3, hours]


def soonest():
    return [4]


def reach(hours):
    return [5, hours]


def answered(*calls):
    """The answers of a line, one list for each call; the counts must fit."""
    line = [number for call in calls for number in call]
    given = answers(line)
    lists = []
    at = 0
    while at < len(given):
        end = at + 1 + given[at]
        if end > len(given):
            raise AssertionError(f"the count at {at} runs over the end of {given}")
        lists.append(given[at + 1:end])
        at = end
    if len(lists) != len(calls):
        raise AssertionError(f"{len(calls)} calls, {len(lists)} answers: {given}")
    return lists


def last(*calls):
    """The answer to the last call of a line."""
    return answered(*calls)[-1]


def flown_by_the_words(heights, sand, gas, mark, winds, moves):
    """What check answers, told by the heights that the flight goes through; winds as they are told."""
    levels = list(itertools.accumulate((move - 1 for move in moves), initial=0))
    for number, move in enumerate(moves):
        before = moves[:number]
        wrongs = [
            not 0 <= levels[number + 1] < heights,
            move == 2 and before.count(2) >= sand,
            move == 0 and before.count(0) >= gas,
        ]
        if any(wrongs):
            return [-6, number, wrongs.index(True) + 1]
    drifts = [winds[n][2 * level:2 * level + 2] for n, level in enumerate(levels[1:])]
    east = sum(drift[0] - 9 for drift in drifts)
    north = sum(drift[1] - 9 for drift in drifts)
    far = (east - mark[0]) ** 2 + (north - mark[1]) ** 2
    return [far, east, north, levels[-1], sand - moves.count(2), gas - moves.count(0)]
