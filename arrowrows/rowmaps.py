"""The maps from one instance to another, all of them, in order. Both must be right."""

from arrowrows.rowlinks import links
from arrowrows.rowlinks import rows_in_order


def conditions_by_place(category, first, second):
    """For each row in order, what must hold of a map once it is told as far as this row.

    A condition is a row's place, the place of the row to which it leads along
    an arrow, and where the other instance's rows lead along this arrow.
    """
    conditions = [[] for row in rows_in_order(first)]
    for f, here, there in links(category, first):
        conditions[max(here, there)].append((here, there, second.leads[f]))
    return conditions


def holds(conditions, taken):
    for here, there, leads in conditions:
        if leads[taken[here]] != taken[there]:
            return False
    return True


def grown(beginnings, choices, conditions):
    """Each beginning of a map with one row more, where the conditions hold; the order is kept."""
    longer = []
    for beginning in beginnings:
        for row in range(choices):
            taken = beginning + [row]
            if holds(conditions, taken):
                longer.append(taken)
    return longer


def all_maps(category, first, second):
    """All maps from the first to the second, each as the numbers of the rows to which rows are taken."""
    conditions = conditions_by_place(category, first, second)
    found = [[]]
    for place, row in enumerate(rows_in_order(first)):
        found = grown(found, second.counts[row[0]], conditions[place])
    return found


def takes_there(taken, wanted):
    """Whether the map takes the row at each wanted place to the number that stands beside it."""
    for place, number in wanted:
        if taken[place] != number:
            return False
    return True


def takes_to_each_once(first, second, taken):
    """Whether the map takes rows of the first instance to each row of the second just once."""
    begin = 0
    for x, k in enumerate(first.counts):
        behind = begin + k
        if sorted(taken[begin:behind]) != list(range(second.counts[x])):
            return False
        begin = behind
    return True
