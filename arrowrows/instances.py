"""The calls of a line: how they are read, refused and answered."""

from arrowrows.category import is_category
from arrowrows.filling import UNTOLD
from arrowrows.filling import first_fault
from arrowrows.filling import put_rows
from arrowrows.line import Line
from arrowrows.refusals import HOW_MANY_INSTANCES
from arrowrows.refusals import MOST_ARROWS
from arrowrows.refusals import MOST_ROWS
from arrowrows.refusals import MOST_THINGS
from arrowrows.refusals import NO_INSTANCE
from arrowrows.refusals import NOT_LET
from arrowrows.refusals import NOT_RIGHT
from arrowrows.refusals import NOT_THERE
from arrowrows.refusals import TOO_MANY
from arrowrows.rowmaps import all_maps


def answer_start(line, numbers):
    n = numbers[0]
    if n < 1 or n > MOST_THINGS:
        return [NOT_LET]
    line.begin_anew(n)
    return [n]


def answer_arrow(line, numbers):
    x = numbers[0]
    y = numbers[1]
    category = line.category
    if not category.has_thing(x) or not category.has_thing(y):
        return [NOT_LET]
    number = len(category.ends)
    if number >= MOST_ARROWS:
        return [TOO_MANY]
    line.put_arrow(x, y)
    return [number]


def answer_make(line, numbers):
    f = numbers[0]
    g = numbers[1]
    h = numbers[2]
    category = line.category
    if not category.has_arrow(f) or not category.has_arrow(g) or not category.has_arrow(h):
        return [NOT_THERE]
    if category.is_own(f) or category.is_own(g) or not category.meet(f, g):
        return [NOT_LET]
    category.told[(f, g)] = h
    return [h]


def answer_rows(line, numbers):
    instance = line.instances[numbers[0]]
    x = numbers[1]
    k = numbers[2]
    if not line.category.has_thing(x):
        return [NOT_LET]
    if instance.row_count() - instance.counts[x] + k > MOST_ROWS:
        return [TOO_MANY]
    put_rows(line.category, instance, x, k)
    return [instance.row_count()]


def answer_set(line, numbers):
    instance = line.instances[numbers[0]]
    f = numbers[1]
    r = numbers[2]
    v = numbers[3]
    category = line.category
    if not category.has_arrow(f):
        return [NOT_THERE]
    if category.is_own(f) or not instance.has_row(category.source(f), r) or v > UNTOLD:
        return [NOT_LET]
    before = instance.leads[f][r]
    instance.leads[f][r] = v
    return [before]


def answer_check(line, numbers):
    if not is_category(line.category):
        return [NOT_RIGHT]
    fault = first_fault(line.category, line.instances[numbers[0]])
    if fault == []:
        return [0]
    return fault


def maps_between(line, i, j):
    return all_maps(line.category, line.instances[i], line.instances[j])


def answer_maps(line, numbers):
    i = numbers[0]
    j = numbers[1]
    if not line.all_right([i, j]):
        return [NOT_RIGHT]
    found = maps_between(line, i, j)
    if found == []:
        return [0]
    return [len(found)] + found[0]


def answer_nth(line, numbers):
    i = numbers[0]
    j = numbers[1]
    k = numbers[2]
    if not line.all_right([i, j]):
        return [NOT_RIGHT]
    found = maps_between(line, i, j)
    if k >= len(found):
        return [NOT_THERE]
    return found[k]


# By a call's number: how many whole numbers it has, how many of them, from the
# first on, are instances, and what answers it.
CALLS = (
    (1, 0, answer_start),
    (2, 0, answer_arrow),
    (3, 0, answer_make),
    (3, 1, answer_rows),
    (4, 1, answer_set),
    (1, 1, answer_check),
    (2, 2, answer_maps),
    (3, 2, answer_nth),
)


def call_length(calls, place):
    """How many numbers the call that begins at this place takes up, its own number among them."""
    return 1 + CALLS[calls[place]][0]


def lacks_an_instance(call):
    """Whether one of the instances that the call names is not there."""
    for i in call[1:1 + CALLS[call[0]][1]]:
        if i >= HOW_MANY_INSTANCES:
            return True
    return False


def answer_call(line, call):
    # This refusal goes ahead of all others, so it is looked for once, for all calls.
    if lacks_an_instance(call):
        return [NO_INSTANCE]
    answer = CALLS[call[0]][2]
    return answer(line, call[1:])


def answers(calls):
    """Answers the calls of one line: for each how many numbers are answered, then these."""
    line = Line()
    answered = []
    place = 0
    while place < len(calls):
        behind = place + call_length(calls, place)
        answer = answer_call(line, calls[place:behind])
        answered.append(len(answer))
        answered.extend(answer)
        place = behind
    return answered
