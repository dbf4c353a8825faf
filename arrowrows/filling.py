"""An instance: rows of each thing, where they lead along arrows, and its first fault."""

from arrowrows.category import meeting_pairs

UNTOLD = 99


class Instance:
    def __init__(self, category):
        self.counts = [0] * category.things
        # One list for each arrow, by number; those of the things' own arrows stay empty.
        self.leads = [[] for ends in category.ends]

    def row_count(self):
        return sum(self.counts)

    def has_row(self, x, r):
        return x < len(self.counts) and r < self.counts[x]


def put_rows(category, instance, x, k):
    """Gives the instance k rows of x; what is told along arrows from x and to x is forgotten."""
    instance.counts[x] = k
    for f in category.others():
        if category.touches(f, x):
            instance.leads[f] = [UNTOLD] * instance.counts[category.source(f)]


def leads_to(category, instance, f, r):
    """The row to which row r leads along f; UNTOLD where it is not told."""
    if category.is_own(f):
        return r
    return instance.leads[f][r]


def fault_of_row(category, instance, f, r):
    """1 or 2, as the document counts faults; 0 where row r leads along f to a row that is there."""
    v = leads_to(category, instance, f, r)
    if v == UNTOLD:
        return 1
    if not instance.has_row(category.target(f), v):
        return 2
    return 0


def first_missing(category, instance):
    """The first fault 1 or 2 as a list of three numbers; an empty list where there is none."""
    for f in category.others():
        for r in range(instance.counts[category.source(f)]):
            fault = fault_of_row(category, instance, f, r)
            if fault != 0:
                return [fault, f, r]
    return []


def leads_elsewhere(category, instance, f, g, r):
    behind_both = leads_to(category, instance, g, leads_to(category, instance, f, r))
    return behind_both != leads_to(category, instance, category.made(f, g), r)


def first_elsewhere(category, instance):
    """The first fault 3 as a list of four numbers; an empty list where there is none."""
    for f, g in meeting_pairs(category):
        for r in range(instance.counts[category.source(f)]):
            if leads_elsewhere(category, instance, f, g, r):
                return [3, f, g, r]
    return []


def first_fault(category, instance):
    """The first fault as a list of numbers, empty where the instance is right. It must be a category."""
    missing = first_missing(category, instance)
    if missing != []:
        return missing
    # Only where each row leads to one that is there can two arrows be followed.
    return first_elsewhere(category, instance)


def is_right(category, instance):
    return first_fault(category, instance) == []
