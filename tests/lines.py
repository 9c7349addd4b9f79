"""Lines of calls as the tests write them, and their answers call by call."""

from windheights.balloon import answers

LARGEST = 4294967295


def begins(heights=1, sand=0, gas=0, east=100, north=100):
    return [0, heights, sand, gas, east, north]


def hour(*winds):
    """Winds as they are told, with 9 added."""
    return [1, len(winds), *winds]


def check(*moves):
    return [2, len(moves), *moves]


def answered(*calls):
    """The answers of a line, one list for each call; the counts must fit."""
    line = [number for call in calls for number in call]
    given = answers(line)
    lists = []
    at = 0
    while at < len(given):
        end = at + 1 + given[at]
        if end > len(given):
            raise AssertionError(f"the count at {at} runs over the end of {given}")
        lists.append(given[at + 1:end])
        at = end
    if len(lists) != len(calls):
        raise AssertionError(f"{len(calls)} calls, {len(lists)} answers: {given}")
    return lists


def last(*calls):
    """The answer to the last call of a line."""
    return answered(*calls)[-1]
