"""The calls of a line: how they are read, refused and answered."""

from arrowrows.filling import UNTOLD
from arrowrows.filling import first_fault
from arrowrows.filling import put_rows
from arrowrows.line import Line
from arrowrows.refusals import HOW_MANY_INSTANCES
from arrowrows.refusals import MOST_ARROWS
from arrowrows.refusals import MOST_ROWS
from arrowrows.refusals import MOST_THINGS
from arrowrows.refusals import NO_INSTANCE
from arrowrows.refusals import NOT_LET
from arrowrows.refusals import NOT_RIGHT
from arrowrows.refusals import NOT_THERE
from arrowrows.refusals import TOO_MANY
from arrowrows.rowlinks import brought_along
from arrowrows.rowlinks import first_places
from arrowrows.rowlinks import piece_numbers
from arrowrows.rowlinks import place_of_row
from arrowrows.rowmaps import all_maps
from arrowrows.rowmaps import takes_there
from arrowrows.rowmaps import takes_to_each_once
from arrowrows.thingarrows import arrows_as_rows
from arrowrows.thingarrows import map_to_row


def answer_start(line, numbers):
    n = numbers[0]
    if n < 1 or n > MOST_THINGS:
        return [NOT_LET]
    line.begin_anew(n)
    return [n]


def answer_arrow(line, numbers):
    x = numbers[0]
    y = numbers[1]
    category = line.category
    if not category.has_thing(x) or not category.has_thing(y):
        return [NOT_LET]
    number = len(category.ends)
    if number >= MOST_ARROWS:
        return [TOO_MANY]
    line.put_arrow(x, y)
    return [number]


def answer_make(line, numbers):
    f = numbers[0]
    g = numbers[1]
    h = numbers[2]
    category = line.category
    if not category.has_arrow(f) or not category.has_arrow(g) or not category.has_arrow(h):
        return [NOT_THERE]
    if category.is_own(f) or category.is_own(g) or not category.meet(f, g):
        return [NOT_LET]
    category.told[(f, g)] = h
    return [h]


def answer_rows(line, numbers):
    instance = line.instances[numbers[0]]
    x = numbers[1]
    k = numbers[2]
    if not line.category.has_thing(x):
        return [NOT_LET]
    if instance.row_count() - instance.counts[x] + k > MOST_ROWS:
        return [TOO_MANY]
    put_rows(line.category, instance, x, k)
    return [instance.row_count()]


def answer_set(line, numbers):
    instance = line.instances[numbers[0]]
    f = numbers[1]
    r = numbers[2]
    v = numbers[3]
    category = line.category
    if not category.has_arrow(f):
        return [NOT_THERE]
    if category.is_own(f) or not instance.has_row(category.source(f), r) or v > UNTOLD:
        return [NOT_LET]
    before = instance.leads[f][r]
    instance.leads[f][r] = v
    return [before]


def answer_check(line, numbers):
    fault = first_fault(line.category, line.instances[numbers[0]])
    if fault == []:
        return [0]
    return fault


def maps_between(line, i, j):
    return all_maps(line.category, line.instances[i], line.instances[j])


def answer_maps(line, numbers):
    found = maps_between(line, numbers[0], numbers[1])
    if found == []:
        return [0]
    return [len(found)] + found[0]


def answer_nth(line, numbers):
    found = maps_between(line, numbers[0], numbers[1])
    k = numbers[2]
    if k >= len(found):
        return [NOT_THERE]
    return found[k]


def in_groups(numbers, size):
    """The numbers, so many at a time."""
    return [tuple(numbers[begin:begin + size]) for begin in range(0, len(numbers), size)]


def lacks_a_row(instance, named):
    """Whether one of the named, each a thing and a number ahead of all else, is no row of the instance."""
    for each in named:
        if not instance.has_row(each[0], each[1]):
            return True
    return False


def answer_fixed(line, numbers):
    first = line.instances[numbers[0]]
    # Ahead of the rows stands how many numbers they are.
    named = in_groups(numbers[3:], 3)
    if lacks_a_row(first, named):
        return [NOT_LET]
    wanted = [(place_of_row(first, x, r), v) for x, r, v in named]
    found = maps_between(line, numbers[0], numbers[1])
    return [len([taken for taken in found if takes_there(taken, wanted)])]


def answer_alike(line, numbers):
    first = line.instances[numbers[0]]
    second = line.instances[numbers[1]]
    found = maps_between(line, numbers[0], numbers[1])
    return [len([taken for taken in found if takes_to_each_once(first, second, taken)])]


def answer_part(line, numbers):
    instance = line.instances[numbers[0]]
    # Ahead of the rows stands how many numbers they are.
    named = in_groups(numbers[2:], 2)
    if lacks_a_row(instance, named):
        return [NOT_LET]
    places = [place_of_row(instance, x, r) for x, r in named]
    brought = brought_along(line.category, instance, places)
    answer = [len(brought)]
    for x, r in brought:
        answer.extend([x, r])
    return answer


def answer_pieces(line, numbers):
    firsts = first_places(line.category, line.instances[numbers[0]])
    return [len(set(firsts))] + piece_numbers(firsts)


def answer_arrows(line, numbers):
    x = numbers[1]
    if not line.category.has_thing(x):
        return [NOT_LET]
    # It is built aside, so that the instance stays as it was where this is refused.
    instance = arrows_as_rows(line.category, x)
    if instance.row_count() > MOST_ROWS:
        return [TOO_MANY]
    line.instances[numbers[0]] = instance
    return [instance.row_count()]


def answer_map_of(line, numbers):
    instance = line.instances[numbers[0]]
    x = numbers[1]
    r = numbers[2]
    if not instance.has_row(x, r):
        return [NOT_LET]
    return map_to_row(line.category, instance, x, r)


def answer_shows(line, numbers):
    instance = line.instances[numbers[0]]
    answer = list(instance.counts)
    for f in line.category.others():
        answer.extend(instance.leads[f])
    return answer


# By a call's number: how many whole numbers it has; how many of them, from the
# first on, are instances; whether a list of rows stands behind them; what it
# needs (see Line.fulfils); and what answers it.
CALLS = (
    (1, 0, False, "", answer_start),
    (2, 0, False, "", answer_arrow),
    (3, 0, False, "", answer_make),
    (3, 1, False, "", answer_rows),
    (4, 1, False, "", answer_set),
    (1, 1, False, "category", answer_check),
    (2, 2, False, "right", answer_maps),
    (3, 2, False, "right", answer_nth),
    (2, 2, True, "right", answer_fixed),
    (2, 2, False, "right", answer_alike),
    (1, 1, True, "right", answer_part),
    (1, 1, False, "right", answer_pieces),
    (2, 1, False, "category", answer_arrows),
    (3, 1, False, "right", answer_map_of),
    (1, 1, False, "", answer_shows),
)


def call_length(calls, place):
    """How many numbers the call that begins at this place takes up, its own number among them."""
    number = calls[place]
    length = 1 + CALLS[number][0]
    if CALLS[number][2]:
        # The list's length is not among the call's whole numbers, so it takes up one more.
        length = length + 1 + calls[place + length]
    return length


def lacks_an_instance(chosen):
    """Whether one of the chosen instances is not there."""
    for i in chosen:
        if i >= HOW_MANY_INSTANCES:
            return True
    return False


def answer_call(line, call):
    number = call[0]
    chosen = call[1:1 + CALLS[number][1]]
    # These two refusals go ahead of all others, so they are looked for once, for all calls.
    if lacks_an_instance(chosen):
        return [NO_INSTANCE]
    if not line.fulfils(CALLS[number][3], chosen):
        return [NOT_RIGHT]
    answer = CALLS[number][4]
    return answer(line, call[1:])


def answers(calls):
    """Answers the calls of one line: for each how many numbers are answered, then these."""
    line = Line()
    answered = []
    place = 0
    while place < len(calls):
        behind = place + call_length(calls, place)
        answer = answer_call(line, calls[place:behind])
        answered.append(len(answer))
        answered.extend(answer)
        place = behind
    return answered
