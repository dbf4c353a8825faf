"""Lines drawn at random, always the same ones, answered as the second program answers them."""

import random
import unittest
from collections import Counter

from lines import (BIGGEST, alike, arrow, arrows as as_rows, check, every, fixed, last, lead, make, map_of, maps, nth,
                   part, pieces, rows, shows, start, told)
from naive import naive


def drawn_category(draw):
    """A category of functions between small sets: the things, the arrows with their ends, what they make."""
    while True:
        sizes = [draw.randint(1, 3) for x in range(draw.randint(1, 3))]
        arrows = [(x, x, tuple(range(size))) for x, size in enumerate(sizes)]
        for step in range(draw.randint(1, 3)):
            x = draw.randrange(len(sizes))
            y = draw.randrange(len(sizes))
            arrows.append((x, y, tuple(draw.randrange(sizes[y]) for r in range(sizes[x]))))
        arrows = list(dict.fromkeys(arrows))
        place = 0
        while place < len(arrows) <= 9:
            for other in list(arrows):
                for f, g in ((arrows[place], other), (other, arrows[place])):
                    if f[1] == g[0] and behind(f, g) not in arrows:
                        arrows.append(behind(f, g))
            place += 1
        if len(sizes) < len(arrows) <= 9:
            return sizes, arrows


def behind(f, g):
    return (f[0], g[1], tuple(g[2][v] for v in f[2]))


def category_calls(sizes, arrows):
    calls = [start(len(sizes))] + [arrow(x, y) for x, y, leads in arrows[len(sizes):]]
    others = list(enumerate(arrows))[len(sizes):]
    for f, first in others:
        for g, second in others:
            if first[1] == second[0]:
                calls.append(make(f, g, arrows.index(behind(first, second))))
    return calls


def filling_calls(draw, i, sizes, arrows):
    """The sets themselves as rows, or some number of copies of one row each, or anything."""
    way = draw.choice(("sets", "ones", "any", "any", "none"))
    if way == "none":
        return []
    if way == "sets" and sum(sizes) <= 6:
        counts = sizes
        leads = [list(leads) for x, y, leads in arrows]
    elif way == "any":
        counts = [draw.randint(1, 2) for size in sizes]
        leads = [[draw.choice((draw.randrange(counts[y]),) * 9 + (2, 99)) for r in range(counts[x])]
                 for x, y, leads in arrows]
    else:
        copies = draw.randint(1, 6 // len(sizes))
        counts = [copies] * len(sizes)
        leads = [list(range(copies)) for f in arrows]
    calls = [rows(i, x, k) for x, k in enumerate(counts)]
    for f in range(len(sizes), len(arrows)):
        calls += [lead(i, f, r, v) for r, v in enumerate(leads[f])]
    return calls


def drawn_question(draw, things):
    number = draw.choice((0, 0, 0, 0, 1, 2, 5, BIGGEST))
    i = draw.choice((0, 0, 0, 0, 1, 1, 1, 1, 2, 3))
    j = draw.choice((0, 0, 0, 0, 1, 1, 1, 1, 2, 3))
    x = draw.choice((0, 0, 1, 2, 3, *range(things)))
    named = [(draw.randrange(things), draw.choice((0, 0, 1)), draw.choice((0, 0, 0, 1, 1, 2)))
             for place in range(draw.choice((0, 1, 1, 2, 3)))]
    return draw.choice((
        check(i), maps(i, j), nth(i, j, number), fixed(i, j, *named), alike(i, j), alike(i, i),
        part(i, *[row[:2] for row in named]), pieces(i), as_rows(i, x), map_of(i, x, draw.choice((0, 0, 1, 2))),
        shows(i)))


def drawn_change(draw, arrows):
    """A call that may make of a category none, or of a right instance one that is not."""
    f = draw.randrange(arrows)
    g = draw.randrange(arrows)
    if draw.random() < 0.3:
        return make(f, g, draw.randrange(arrows))
    return lead(draw.randrange(2), f, draw.randrange(3), draw.choice((0, 0, 1, 1, 2, 98, 99)))


def category_line(draw):
    sizes, arrows = drawn_category(draw)
    calls = category_calls(sizes, arrows)
    for i in (0, 1):
        calls += filling_calls(draw, i, sizes, arrows)
    for asked in range(12):
        calls.append(drawn_question(draw, len(sizes)))
        if draw.random() < 0.2:
            calls.append(drawn_change(draw, len(arrows)))
    return calls


def drawn_category_line(draw):
    """A line about a category, with no more calls than a line may have."""
    while True:
        calls = category_line(draw)
        if len(calls) <= 40:
            return calls


INSTANCES = (0, 0, 0, 0, 1, 1, 2, 3, BIGGEST)
THINGS = (0, 0, 0, 0, 1, 1, 2, 3, BIGGEST)
ARROWS = (0, 1, 1, 2, 2, 3, 3, 4, 5, 8, 9, BIGGEST)
COUNTS = (0, 1, 1, 2, 2, 2, 3, 6, 7, BIGGEST)
ROWS = (0, 0, 0, 1, 1, 2, 5, BIGGEST)
LED_TO = (0, 0, 0, 1, 1, 2, 98, 99, 100, BIGGEST)
DRAWN_FROM = ((COUNTS,), (THINGS, THINGS), (ARROWS, ARROWS, ARROWS), (INSTANCES, THINGS, COUNTS),
              (INSTANCES, ARROWS, ROWS, LED_TO), (INSTANCES,), (INSTANCES, INSTANCES), (INSTANCES, INSTANCES, ROWS),
              (INSTANCES, INSTANCES), (INSTANCES, INSTANCES), (INSTANCES,), (INSTANCES,), (INSTANCES, THINGS),
              (INSTANCES, THINGS, ROWS), (INSTANCES,))
# The numbers of the calls behind which rows stand, and from what a row's numbers are drawn.
WITH_ROWS = {8: (THINGS, ROWS, ROWS), 10: (THINGS, ROWS)}


def drawn_call(draw, number):
    call = [draw.choice(choices) for choices in DRAWN_FROM[number]]
    if number in WITH_ROWS:
        count = draw.choice((0, 1, 1, 2, 10))
        named = [draw.choice(choices) for choices in WITH_ROWS[number] * count]
        call += [len(named), *named]
    return (number, *call)


def drawn_any_line(draw):
    """Calls of all sorts, most of them such as are let."""
    calls = [start(draw.randint(1, 3))] + [arrow(0, 0)] * draw.choice((0, 1, 1, 2, 8))
    while len(calls) < 40:
        number = draw.choice((0, 1, *[2] * 4, *[3] * 5, *[4] * 6, 5, 6, 7, 8, 9, 10, 11, 12, 12, 13, 14, 14))
        if number < 2 and draw.random() < 0.7:
            number = 4
        calls.append(drawn_call(draw, number))
    return calls


class AgainstNaive(unittest.TestCase):
    def compare(self, drawn, count):
        seen = Counter()
        for seed in range(count):
            calls = drawn(random.Random(seed))
            expected = naive(calls)
            self.assertEqual(told(*calls), expected, f"seed {seed}: {calls}")
            for call, answer in zip(calls, expected):
                seen[call[0], answer[0] if answer and (answer[0] < 0 or call[0] == 5) else "told"] += 1
        return seen

    def assert_seen(self, seen, kinds):
        for number, firsts in kinds.items():
            for first in firsts:
                self.assertGreater(seen[number, first], 3, (number, first))

    def test_categories_and_fillings(self):
        seen = self.compare(drawn_category_line, 500)
        self.assert_seen(seen, {
            5: (0, 1, 2, 3, -2, -6), 6: ("told", -2, -6), 7: ("told", -2, -3, -6), 8: ("told", -1, -2, -6),
            9: ("told", -2, -6), 10: ("told", -1, -2, -6), 11: ("told", -2, -6), 12: ("told", -1, -2, -6),
            13: ("told", -1, -2, -6), 14: ("told", -2)})

    def test_calls_of_all_kinds(self):
        seen = self.compare(drawn_any_line, 500)
        self.assert_seen(seen, {
            0: ("told", -1), 1: ("told", -1, -5), 2: ("told", -1, -3), 3: ("told", -1, -2, -5),
            4: ("told", -1, -2, -3), 8: ("told", -1, -2, -6), 9: ("told", -2, -6), 10: ("told", -1, -2, -6),
            11: ("told", -2, -6), 12: ("told", -1, -2, -6), 13: ("told", -1, -2, -6), 14: ("told", -2)})


class ArrowsAsRows(unittest.TestCase):
    def test_maps_from_a_thing_s_arrows_are_its_rows(self):
        compared = 0
        for seed in range(150):
            draw = random.Random(seed)
            sizes, arrows = drawn_category(draw)
            begun = category_calls(sizes, arrows)
            begun += filling_calls(draw, 0, sizes, arrows)
            if len(begun) > 38:
                continue
            for x in range(len(sizes)):
                asked = begun + [as_rows(1, x)]
                if last(*asked, check(0)) == [0] and last(*asked)[0] > 0:
                    self.assertEqual(last(*asked, check(1)), [0])
                    count = last(*asked, shows(0))[x]
                    # By r they come in another order than by the maps: x's own arrow may not be the first row.
                    told_by_row = [last(*asked, map_of(0, x, r)) for r in range(count)]
                    self.assertEqual(sorted(told_by_row), every(asked, 1, 0), f"seed {seed}: {asked}")
                    compared += 1
        self.assertGreater(compared, 100)


if __name__ == "__main__":
    unittest.main()
