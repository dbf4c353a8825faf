"""Things, the arrows between them, and what two arrows make."""


class Category:
    def __init__(self, things):
        self.things = things
        # A thing's own arrow bears the thing's number, so these come first.
        self.ends = [(x, x) for x in range(things)]
        self.told = {}

    def has_thing(self, x):
        return x < self.things

    def has_arrow(self, f):
        return f < len(self.ends)

    def is_own(self, f):
        return f < self.things

    def source(self, f):
        return self.ends[f][0]

    def target(self, f):
        return self.ends[f][1]

    def touches(self, f, x):
        return self.source(f) == x or self.target(f) == x

    def meet(self, f, g):
        return self.target(f) == self.source(g)

    def others(self):
        """The arrows that are not a thing's own, by number."""
        return list(range(self.things, len(self.ends)))

    def made(self, f, g):
        """What f and, behind it, g make; None where it is not told."""
        if self.is_own(f):
            return g
        if self.is_own(g):
            return f
        return self.told.get((f, g))


def arrows_between(category, x, y):
    """The arrows from x to y, by number."""
    return [f for f, ends in enumerate(category.ends) if ends == (x, y)]


def meeting_pairs(category):
    """The arrows f, g that meet and are not a thing's own, by f, then g."""
    pairs = []
    for f in category.others():
        for g in category.others():
            if category.meet(f, g):
                pairs.append((f, g))
    return pairs


def pair_fits(category, f, g):
    h = category.made(f, g)
    if h is None:
        return False
    return category.source(h) == category.source(f) and category.target(h) == category.target(g)


def triple_agrees(category, f, g, h):
    first_two = category.made(category.made(f, g), h)
    last_two = category.made(f, category.made(g, h))
    return first_two == last_two


def is_category(category):
    pairs = meeting_pairs(category)
    # Threes are looked at behind all pairs: only then is what they make told and does it meet.
    for f, g in pairs:
        if not pair_fits(category, f, g):
            return False
    for f, g in pairs:
        for h in category.others():
            if category.meet(g, h) and not triple_agrees(category, f, g, h):
                return False
    return True
