"""An instance's rows in order, which of them lead to which, and what hangs together. It must be right."""

from arrowrows.filling import leads_to


def rows_in_order(instance):
    """Each row as its thing and its number."""
    found = []
    for x, k in enumerate(instance.counts):
        found.extend([(x, r) for r in range(k)])
    return found


def place_of_row(instance, x, r):
    """Where row r of x stands among all rows in order."""
    return sum(instance.counts[:x]) + r


def links(category, instance):
    """For each arrow that is not a thing's own and each row: the arrow, the row's place, where it leads to."""
    found = []
    for f in category.others():
        x = category.source(f)
        for r in range(instance.counts[x]):
            here = place_of_row(instance, x, r)
            there = place_of_row(instance, category.target(f), leads_to(category, instance, f, r))
            found.append((f, here, there))
    return found


def brought_along(category, instance, places):
    """The rows that those at the places bring with them, in order, each once."""
    # In a right instance what two arrows make leads as far as they do, so one step reaches all.
    reached = list(places)
    for f, here, there in links(category, instance):
        if here in places:
            reached.append(there)
    return [row for place, row in enumerate(rows_in_order(instance)) if place in reached]


def first_places(category, instance):
    """For each row, in order, the place of the first row of its piece."""
    count = instance.row_count()
    steps = links(category, instance)
    firsts = list(range(count))
    # A first row is handed on one step a round at least, and no two rows of a piece are count steps apart.
    for turn in range(count):
        for f, here, there in steps:
            lower = min(firsts[here], firsts[there])
            firsts[here] = lower
            firsts[there] = lower
    return firsts


def piece_numbers(firsts):
    """For each row its piece's number; pieces are numbered by their first rows."""
    heads = [place for place, first in enumerate(firsts) if place == first]
    return [heads.index(first) for first in firsts]
