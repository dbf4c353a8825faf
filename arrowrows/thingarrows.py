"""A thing's arrows as rows of an instance, and the maps from them. It must be a category."""

from arrowrows.category import arrows_between
from arrowrows.filling import Instance
from arrowrows.filling import leads_to


def arrows_by_end(category, x):
    """For each thing the arrows that lead there from x, by number."""
    return [arrows_between(category, x, y) for y in range(category.things)]


def arrows_as_rows(category, x):
    """A new instance whose rows are x's arrows, however many these are."""
    instance = Instance(category)
    by_end = arrows_by_end(category, x)
    instance.counts = [len(arrows) for arrows in by_end]
    for f in category.others():
        reached = by_end[category.target(f)]
        instance.leads[f] = [reached.index(category.made(h, f)) for h in by_end[category.source(f)]]
    return instance


def map_to_row(category, instance, x, r):
    """The map from x's arrows as rows to the right instance that takes x's own arrow to row r."""
    taken = []
    for arrows in arrows_by_end(category, x):
        # An arrow h is where x's own leads along h, so it is taken to where r leads along h.
        taken.extend([leads_to(category, instance, h, r) for h in arrows])
    return taken
