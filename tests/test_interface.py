"""The interface: how calls stand in the list, how answers do, and that nothing is changed or kept."""

import contextlib
import io
import unittest

from arrowrows.instances import answers
from lines import (BIGGEST, alike, arrow, arrows, check, fixed, flat, lead, make, map_of, maps, nth, part, pieces, rows,
                   shows, start, told)

# Forty calls: each at least once, with several kinds of refusals among them.
MIXED = (
    start(2), arrow(0, 1), arrow(1, 1), arrow(2, 0), check(0), make(2, 3, 2), make(3, 3, 3), make(9, 3, 3),
    rows(0, 0, 2), rows(0, 1, 2), rows(0, 1, 9), lead(0, 2, 0, 1), lead(0, 2, 1, 1), lead(0, 3, 0, 1), check(0),
    lead(0, 3, 1, 1), lead(0, 0, 0, 0), check(0), maps(0, 0), nth(0, 0, 3), nth(0, 0, 4), maps(0, 3), nth(1, 0, 0),
    maps(0, 1), fixed(0, 0, (0, 0, 1), (1, 0, 0)), fixed(0, 0, (0, 2, 0)), fixed(3, 0, (0, 0, 0)), alike(0, 0),
    alike(0, 1), part(0, (0, 1), (0, 1)), part(0, (1, 2)), pieces(0), arrows(1, 0), arrows(1, 2), shows(1),
    map_of(0, 0, 1), map_of(0, 1, 2), shows(0), maps(1, 0), part(0),
)
MIXED_ANSWERS = [
    [2], [2], [3], [-1], [-6], [2], [3], [-3],
    [2], [4], [-5], [99], [99], [99], [1, 3, 1],
    [99], [-1], [0], [8, 0, 0, 0, 1], [0, 1, 1, 1], [1, 0, 0, 1], [-2], [],
    [0], [2], [-1], [-2], [2], [0],
    [2, 0, 1, 1, 1], [-1], [1, 0, 0, 0, 0], [2], [-1], [1, 1, 0, 0], [1, 1],
    [-1], [2, 2, 1, 1, 1, 1], [2, 0, 1], [0],
]


class Unchanging(list):
    """A list that can't be changed, not for a while either."""

    def refuse(self, *given, **named):
        raise AssertionError("what is handed in is changed")

    __setitem__ = __delitem__ = __iadd__ = __imul__ = refuse
    append = extend = insert = pop = remove = clear = sort = reverse = refuse


class Form(unittest.TestCase):
    def test_counts_stand_ahead_of_answers(self):
        self.assertEqual(answers([0, 2]), [1, 2])
        self.assertEqual(answers([0, 9]), [1, -1])
        self.assertEqual(answers([1, 0, 0, 2, 1, 1, 1, 3, 0, 0, 1, 5, 0]), [1, 1, 1, 1, 1, 1, 3, 1, 1, 0])
        self.assertEqual(answers([3, 0, 0, 2, 6, 0, 0, 7, 0, 0, 1]), [1, 2, 3, 4, 0, 0, 2, 0, 1])

    def test_an_answer_of_no_number(self):
        self.assertEqual(answers([7, 0, 0, 0, 7, 0, 0, 1, 0, 1]), [0, 1, -3, 1, 1])

    def test_an_answer_of_four_numbers(self):
        calls = [arrow(0, 0), make(1, 1, 0), rows(0, 0, 1), rows(0, 0, 2), lead(0, 1, 0, 0), lead(0, 1, 1, 0)]
        self.assertEqual(answers(flat(calls + [check(0)]))[12:], [4, 3, 1, 1, 1])

    def test_several_calls_one_behind_another(self):
        self.assertEqual(told(*MIXED), MIXED_ANSWERS)
        expected = [number for answer in MIXED_ANSWERS for number in [len(answer)] + answer]
        self.assertEqual(answers(flat(MIXED)), expected)

    def test_refusals_leave_all_as_it_was(self):
        refused = [place for place, answer in enumerate(MIXED_ANSWERS) if answer and answer[0] < 0]
        self.assertEqual(len(refused), 11)
        left = [place for place in range(len(MIXED)) if place not in refused]
        self.assertEqual(told(*[MIXED[place] for place in left]), [MIXED_ANSWERS[place] for place in left])

    def test_forty_calls(self):
        self.assertEqual(told(*[start(n % 5) for n in range(40)]), [[-1], [1], [2], [3], [-1]] * 8)
        filled = [rows(0, 0, 6), rows(1, 0, 6)]
        self.assertEqual(
            told(*filled, *[maps(0, 1)] * 19, *[nth(0, 1, 46655)] * 19),
            [[6], [6]] + [[46656, 0, 0, 0, 0, 0, 0]] * 19 + [[5, 5, 5, 5, 5, 5]] * 19)

    def test_forty_calls_with_most_numbers(self):
        named = [(0, r, r) for r in range(6)]
        calls = [rows(0, 0, 6)] + [fixed(0, 0, *named, *named[:4])] * 39
        self.assertEqual(told(*calls), [[6]] + [[1]] * 39)
        longest = [fixed(0, 0, *[(0, 0, 0)] * 10)] * 40
        self.assertEqual(len(flat(longest)), 1360)
        self.assertEqual(told(*longest), [[-1]] * 40)

    def test_forty_calls_of_mixed_kinds(self):
        self.assertEqual(len(MIXED), 40)
        self.assertEqual({call[0] for call in MIXED}, set(range(15)))

    def test_numbers_of_the_later_calls(self):
        self.assertEqual(answers([3, 0, 0, 2, 8, 0, 0, 0, 8, 0, 0, 3, 0, 1, 0]), [1, 2, 1, 4, 1, 2])
        self.assertEqual(answers([3, 0, 0, 2, 9, 0, 0]), [1, 2, 1, 2])
        self.assertEqual(answers([3, 0, 0, 2, 10, 0, 0, 10, 0, 2, 0, 1]), [1, 2, 1, 0, 3, 1, 0, 1])
        self.assertEqual(answers([3, 0, 0, 2, 11, 0]), [1, 2, 3, 2, 0, 1])
        self.assertEqual(answers([12, 0, 0, 13, 0, 0, 0, 14, 0]), [1, 1, 1, 0, 1, 1])

    def test_biggest_numbers_everywhere(self):
        n = BIGGEST
        self.assertEqual(
            told(start(n), arrow(n, n), make(n, n, n), rows(n, n, n), lead(n, n, n, n), check(n), maps(n, n),
                 nth(n, n, n), fixed(n, n, *[(n, n, n)] * 10), alike(n, n), part(n, *[(n, n)] * 10), pieces(n),
                 arrows(n, n), map_of(n, n, n), shows(n)),
            [[-1], [-1], [-3]] + [[-2]] * 12)
        self.assertEqual(
            told(fixed(0, 0, *[(n, n, n)] * 10), part(0, *[(n, n)] * 10), arrows(0, n), map_of(0, n, n)), [[-1]] * 4)

    def test_whole_numbers_in_a_list(self):
        given = answers(flat(MIXED))
        self.assertIs(type(given), list)
        self.assertEqual({type(number) for number in given}, {int})


class NothingChangedOrKept(unittest.TestCase):
    def test_the_list_is_the_same_behind_the_call(self):
        calls = flat(MIXED)
        before = list(calls)
        answers(calls)
        self.assertEqual(calls, before)

    def test_the_list_is_not_changed_for_a_while_either(self):
        self.assertEqual(answers(Unchanging(flat(MIXED))), answers(flat(MIXED)))

    def test_a_second_call_answers_the_same(self):
        calls = flat(MIXED)
        first = answers(calls)
        self.assertEqual(answers(calls), first)
        self.assertEqual(answers(calls), first)

    def test_each_time_begins_anew(self):
        answers(flat([start(3), arrow(0, 1), rows(0, 2, 3)]))
        self.assertEqual(told(arrow(0, 1), arrow(0, 0), rows(0, 0, 0)), [[-1], [1], [0]])

    def test_the_list_given_back_belongs_to_the_caller(self):
        calls = flat(MIXED)
        first = answers(calls)
        kept = list(first)
        first.clear()
        self.assertEqual(answers(calls), kept)

    def test_nothing_is_printed(self):
        out = io.StringIO()
        err = io.StringIO()
        with contextlib.redirect_stdout(out), contextlib.redirect_stderr(err):
            answers(flat(MIXED))
        self.assertEqual((out.getvalue(), err.getvalue()), ("", ""))


if __name__ == "__main__":
    unittest.main()
