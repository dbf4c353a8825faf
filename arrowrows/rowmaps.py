"""The maps from one instance to another, all of them, in order. Both must be right."""

from arrowrows.filling import leads_to


def things_of_rows(instance):
    """The thing of each row, the rows in order."""
    things = []
    for x, k in enumerate(instance.counts):
        things.extend([x] * k)
    return things


def place_of_row(instance, x, r):
    """Where row r of x stands among all rows in order."""
    return sum(instance.counts[:x]) + r


def conditions_by_place(category, first, second):
    """For each row in order, what must hold of a map once it is told as far as this row.

    A condition is a row's place, the place of the row to which it leads along
    an arrow, and where the other instance's rows lead along this arrow.
    """
    conditions = [[] for thing in things_of_rows(first)]
    for f in category.others():
        x = category.source(f)
        for r in range(first.counts[x]):
            here = place_of_row(first, x, r)
            there = place_of_row(first, category.target(f), leads_to(category, first, f, r))
            conditions[max(here, there)].append((here, there, second.leads[f]))
    return conditions


def holds(conditions, taken):
    for here, there, leads in conditions:
        if leads[taken[here]] != taken[there]:
            return False
    return True


def grown(beginnings, choices, conditions):
    """Each beginning of a map with one row more, where the conditions hold; the order is kept."""
    longer = []
    for beginning in beginnings:
        for row in range(choices):
            taken = beginning + [row]
            if holds(conditions, taken):
                longer.append(taken)
    return longer


def all_maps(category, first, second):
    """All maps from the first to the second, each as the numbers of the rows to which rows are taken."""
    conditions = conditions_by_place(category, first, second)
    found = [[]]
    for place, x in enumerate(things_of_rows(first)):
        found = grown(found, second.counts[x], conditions[place])
    return found
