"""A second program for the same calls, straight from the document's words and without a thought for speed.

Tests hold the package's answers against it. It shares nothing with the package.
"""

import itertools


class Naive:
    def __init__(self):
        self.start(1)

    def start(self, n):
        if n not in (1, 2, 3):
            return [-1]
        self.n = n
        self.arrows = {x: (x, x) for x in range(n)}
        self.makes = {}
        self.empty()
        return [n]

    def empty(self):
        self.rows_of = {(i, x): 0 for i in range(3) for x in range(self.n)}
        self.lead = {}

    def arrow(self, x, y):
        if x >= self.n or y >= self.n:
            return [-1]
        if len(self.arrows) == 9:
            return [-5]
        f = len(self.arrows)
        self.arrows[f] = (x, y)
        self.empty()
        return [f]

    def make(self, f, g, h):
        if not {f, g, h} <= set(self.arrows):
            return [-3]
        if f < self.n or g < self.n or self.arrows[f][1] != self.arrows[g][0]:
            return [-1]
        self.makes[f, g] = h
        return [h]

    def total(self, i):
        return sum(k for (j, x), k in self.rows_of.items() if j == i)

    def rows(self, i, x, k):
        if i > 2:
            return [-2]
        if x >= self.n:
            return [-1]
        if self.total(i) - self.rows_of[i, x] + k > 6:
            return [-5]
        self.rows_of[i, x] = k
        self.lead = {key: v for key, v in self.lead.items() if key[0] != i or x not in self.arrows[key[1]]}
        return [self.total(i)]

    def set(self, i, f, r, v):
        if i > 2:
            return [-2]
        if f not in self.arrows:
            return [-3]
        if f < self.n or r >= self.rows_of[i, self.arrows[f][0]] or v > 99:
            return [-1]
        before = self.lead.get((i, f, r), 99)
        self.lead[i, f, r] = v
        if v == 99:
            del self.lead[i, f, r]
        return [before]

    def made(self, f, g):
        if f < self.n:
            return g
        if g < self.n:
            return f
        return self.makes.get((f, g))

    def meeting(self, count):
        """All arrows, own ones too, so many one behind another, each meeting the one before it."""
        for fs in itertools.product(sorted(self.arrows), repeat=count):
            if all(self.arrows[f][1] == self.arrows[g][0] for f, g in zip(fs, fs[1:])):
                yield fs

    def category(self):
        for f, g in self.meeting(2):
            h = self.made(f, g)
            if h is None or self.arrows[h] != (self.arrows[f][0], self.arrows[g][1]):
                return False
        return all(
            self.made(self.made(f, g), h) == self.made(f, self.made(g, h)) for f, g, h in self.meeting(3))

    def led(self, i, f, r):
        return r if f < self.n else self.lead.get((i, f, r))

    def faults(self, i):
        """All faults 1 and 2 in order, or, if there are none, all faults 3 in order."""
        found = []
        for f in range(self.n, len(self.arrows)):
            x, y = self.arrows[f]
            for r in range(self.rows_of[i, x]):
                if self.led(i, f, r) is None:
                    found.append([1, f, r])
                elif self.led(i, f, r) >= self.rows_of[i, y]:
                    found.append([2, f, r])
        if found:
            return found
        for f, g in self.meeting(2):
            if f >= self.n and g >= self.n:
                for r in range(self.rows_of[i, self.arrows[f][0]]):
                    if self.led(i, g, self.led(i, f, r)) != self.led(i, self.made(f, g), r):
                        found.append([3, f, g, r])
        return found

    def check(self, i):
        if i > 2:
            return [-2]
        if not self.category():
            return [-6]
        return (self.faults(i) + [[0]])[0]

    def all_rows(self, i):
        return [(x, r) for x in range(self.n) for r in range(self.rows_of[i, x])]

    def is_map(self, i, j, taken):
        for f in self.arrows:
            x, y = self.arrows[f]
            for r in range(self.rows_of[i, x]):
                if taken[y, self.led(i, f, r)] != self.led(j, f, taken[x, r]):
                    return False
        return True

    def all_maps(self, i, j):
        first = self.all_rows(i)
        choices = [range(self.rows_of[j, x]) for x, r in first]
        return sorted(
            list(picked) for picked in itertools.product(*choices) if self.is_map(i, j, dict(zip(first, picked))))

    def refused(self, i, j):
        if i > 2 or j > 2:
            return [-2]
        if not self.category() or self.faults(i) or self.faults(j):
            return [-6]
        return None

    def maps(self, i, j):
        if self.refused(i, j):
            return self.refused(i, j)
        found = self.all_maps(i, j)
        return [len(found)] + (found[0] if found else [])

    def nth(self, i, j, k):
        if self.refused(i, j):
            return self.refused(i, j)
        found = self.all_maps(i, j)
        return found[k] if k < len(found) else [-3]

    def fixed(self, i, j, length, *numbers):
        if self.refused(i, j):
            return self.refused(i, j)
        first = self.all_rows(i)
        asked = [(numbers[k:k + 2], numbers[k + 2]) for k in range(0, length, 3)]
        if any(row not in first for row, v in asked):
            return [-1]
        return [sum(all(taken[first.index(row)] == v for row, v in asked) for taken in self.all_maps(i, j))]

    def alike(self, i, j):
        if self.refused(i, j):
            return self.refused(i, j)
        first = self.all_rows(i)
        taken_to = [sorted((x, v) for (x, r), v in zip(first, taken)) for taken in self.all_maps(i, j)]
        return [taken_to.count(self.all_rows(j))]

    def led_to(self, i, x, r):
        """All rows to which row r of x leads along any arrow, itself among them."""
        return {(self.arrows[f][1], self.led(i, f, r)) for f in self.arrows if self.arrows[f][0] == x}

    def part(self, i, length, *numbers):
        if self.refused(i, i):
            return self.refused(i, i)
        asked = {numbers[k:k + 2] for k in range(0, length, 2)}
        if not asked <= set(self.all_rows(i)):
            return [-1]
        brought = sorted(asked.union(*[self.led_to(i, x, r) for x, r in asked]))
        return [len(brought)] + [number for row in brought for number in row]

    def pieces(self, i):
        if self.refused(i, i):
            return self.refused(i, i)
        found = []
        for row in self.all_rows(i):
            # A row's first reach may hang together with pieces that were apart so far.
            reach = self.led_to(i, *row)
            apart = [piece for piece in found if not piece & reach]
            joined = [piece for piece in found if piece & reach]
            found = apart + [reach.union(*joined)]
        found.sort(key=min)
        return [len(found)] + [k for row in self.all_rows(i) for k, piece in enumerate(found) if row in piece]

    def arrows_of(self, x):
        """The arrows from x by where they lead to, then by number."""
        return sorted((f for f in self.arrows if self.arrows[f][0] == x), key=lambda f: (self.arrows[f][1], f))

    def put_arrows(self, i, x):
        named = {}
        for y in range(self.n):
            to_y = [h for h in self.arrows_of(x) if self.arrows[h][1] == y]
            self.rows_of[i, y] = len(to_y)
            named.update({h: r for r, h in enumerate(to_y)})
        self.lead = {key: v for key, v in self.lead.items() if key[0] != i}
        for f, h in itertools.product(range(self.n, len(self.arrows)), named):
            if self.arrows[h][1] == self.arrows[f][0]:
                self.lead[i, f, named[h]] = named[self.made(h, f)]

    def as_rows(self, i, x):
        if i > 2:
            return [-2]
        if not self.category():
            return [-6]
        if x >= self.n:
            return [-1]
        if len(self.arrows_of(x)) > 6:
            return [-5]
        self.put_arrows(i, x)
        return [self.total(i)]

    def map_of(self, i, x, r):
        if self.refused(i, i):
            return self.refused(i, i)
        if (x, r) not in self.all_rows(i):
            return [-1]
        self.put_arrows("aside", x)
        first = self.all_rows("aside")
        taken = [self.led(i, h, r) for h in self.arrows_of(x)]
        if not self.is_map("aside", i, dict(zip(first, taken))) or taken[first.index((x, 0))] != r:
            raise AssertionError(f"{taken} is no such map")
        return taken

    def shows(self, i):
        if i > 2:
            return [-2]
        counts = [self.rows_of[i, x] for x in range(self.n)]
        return counts + [self.lead.get((i, f, r), 99) for f in range(self.n, len(self.arrows))
                         for r in range(self.rows_of[i, self.arrows[f][0]])]


NAMES = ("start", "arrow", "make", "rows", "set", "check", "maps", "nth", "fixed", "alike", "part", "pieces",
         "as_rows", "map_of", "shows")


def naive(calls):
    """What each of the calls of one line answers."""
    line = Naive()
    return [getattr(line, NAMES[call[0]])(*call[1:]) for call in calls]
