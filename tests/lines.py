"""Helpers of the tests: calls by name, and the answers call by call."""

from arrowrows.instances import answers

BIGGEST = 4294967295


def start(n):
    return (0, n)


def arrow(x, y):
    return (1, x, y)


def make(f, g, h):
    return (2, f, g, h)


def rows(i, x, k):
    return (3, i, x, k)


def lead(i, f, r, v):
    """The call that the document names set."""
    return (4, i, f, r, v)


def check(i):
    return (5, i)


def maps(i, j):
    return (6, i, j)


def nth(i, j, k):
    return (7, i, j, k)


def fixed(i, j, *rows_and_where):
    """Each behind the instances is a thing, a row's number, the number of the row to which it goes."""
    numbers = flat(rows_and_where)
    return (8, i, j, len(numbers), *numbers)


def alike(i, j):
    return (9, i, j)


def part(i, *named):
    """Each behind the instance is a thing and a row's number."""
    numbers = flat(named)
    return (10, i, len(numbers), *numbers)


def pieces(i):
    return (11, i)


def arrows(i, x):
    return (12, i, x)


def map_of(i, x, r):
    """The call that the document names mapOf."""
    return (13, i, x, r)


def shows(i):
    return (14, i)


def leads(i, f, targets):
    """Calls that tell of all rows, by number, where they lead along f."""
    return [lead(i, f, r, v) for r, v in enumerate(targets)]


def flat(calls):
    return [number for call in calls for number in call]


def apart(answered):
    """The answers as one list for each call."""
    lists = []
    place = 0
    while place < len(answered):
        behind = place + 1 + answered[place]
        lists.append(answered[place + 1:behind])
        place = behind
    return lists


def told(*calls):
    """What each of the calls of one line answers."""
    if len(calls) > 40:
        raise AssertionError(f"{len(calls)} calls are more than a line has")
    lists = apart(answers(flat(calls)))
    if len(lists) != len(calls):
        raise AssertionError(f"{len(calls)} calls, {len(lists)} answers: {lists}")
    return lists


def last(*calls):
    """What the last of the calls of one line answers."""
    return told(*calls)[-1]


def every(begun, i, j):
    """All maps that nth tells from i to j; maps must tell their count and the first one."""
    found = []
    while True:
        answer = last(*begun, nth(i, j, len(found)))
        if answer == [-3]:
            break
        # Another refusal would never end.
        if answer and answer[0] < 0:
            raise AssertionError(f"nth answers {answer}")
        found.append(answer)
    counted = last(*begun, maps(i, j))
    if counted != [len(found)] + (found[0] if found else []):
        raise AssertionError(f"maps answers {counted}, nth {found}")
    return found
