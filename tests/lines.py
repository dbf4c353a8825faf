"""Helpers of the tests: calls by name, and the answers call by call."""

from arrowrows.instances import answers

BIGGEST = 4294967295


def start(n):
    return (0, n)


def arrow(x, y):
    return (1, x, y)


def make(f, g, h):
    return (2, f, g, h)


def rows(i, x, k):
    return (3, i, x, k)


def lead(i, f, r, v):
    """The call that the document names set."""
    return (4, i, f, r, v)


def check(i):
    return (5, i)


def maps(i, j):
    return (6, i, j)


def nth(i, j, k):
    return (7, i, j, k)


def flat(calls):
    return [number for call in calls for number in call]


def apart(answered):
    """The answers as one list for each call."""
    lists = []
    place = 0
    while place < len(answered):
        behind = place + 1 + answered[place]
        lists.append(answered[place + 1:behind])
        place = behind
    return lists


def told(*calls):
    """What each of the calls of one line answers."""
    lists = apart(answers(flat(calls)))
    if len(lists) != len(calls):
        raise AssertionError(f"{len(calls)} calls, {len(lists)} answers: {lists}")
    return lists


def last(*calls):
    """What the last of the calls of one line answers."""
    return told(*calls)[-1]
