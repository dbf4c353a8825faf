"""Point 2: an instance above 2 is refused ahead of all else."""

import unittest

from lines import (BIGGEST, alike, arrow, arrows, check, fixed, last, lead, map_of, maps, nth, part, pieces, rows,
                   shows, start, told)

ABOVE = (3, 4, BIGGEST)


class InstanceNumbers(unittest.TestCase):
    def test_all_three_are_there(self):
        for i in range(3):
            self.assertEqual(
                told(arrow(0, 0), rows(i, 0, 1), lead(i, 1, 0, 0), start(1), check(i), maps(i, 2), nth(i, 2, 0)),
                [[1], [1], [99], [1], [0], [1], []])

    def test_above_two_is_refused(self):
        begun = (arrow(0, 0), rows(0, 0, 1))
        for i in ABOVE:
            self.assertEqual(
                told(*begun, rows(i, 0, 1), lead(i, 1, 0, 0))[2:], [[-2], [-2]])
            self.assertEqual(
                told(check(i), maps(i, 0), maps(0, i), maps(i, i), nth(i, 0, 0), nth(0, i, 0), nth(i, i, 0)),
                [[-2]] * 7)

    def test_ahead_of_a_thing_that_is_not_there_and_of_too_many_rows(self):
        for i in ABOVE:
            self.assertEqual(told(rows(i, 1, 1), rows(i, 0, 7), rows(i, BIGGEST, BIGGEST)), [[-2], [-2], [-2]])

    def test_ahead_of_what_set_refuses(self):
        for i in ABOVE:
            self.assertEqual(
                told(lead(i, 1, 0, 0), lead(i, 0, 0, 0), lead(i, 9, 9, 100), lead(i, BIGGEST, BIGGEST, BIGGEST)),
                [[-2]] * 4)

    def test_ahead_of_no_category(self):
        for i in ABOVE:
            asked = (check(i), maps(i, 0), maps(0, i), nth(i, 0, 0), nth(0, i, 0))
            self.assertEqual(told(arrow(0, 0), *asked)[1:], [[-2]] * 5)

    def test_ahead_of_an_instance_that_is_not_right(self):
        begun = (start(2), arrow(0, 1), rows(0, 0, 1), maps(0, 0))
        for i in ABOVE:
            self.assertEqual(
                told(*begun, maps(i, 0), maps(0, i), nth(i, 0, 0), nth(0, i, 0))[3:], [[-6]] + [[-2]] * 4)

    def test_ahead_of_no_such_map(self):
        for i in ABOVE:
            self.assertEqual(told(nth(i, 0, 1), nth(0, i, BIGGEST)), [[-2], [-2]])

    def test_refused_leaves_all_as_it_was(self):
        begun = (arrow(0, 0), rows(0, 0, 1), rows(1, 0, 1), rows(2, 0, 1), lead(2, 1, 0, 5))
        for i in ABOVE:
            for k in range(3):
                self.assertEqual(
                    last(*begun, rows(i, 0, 0), lead(i, 1, 0, 6), lead(k, 1, 0, 7)), [5] if k == 2 else [99])


class InTheLaterCalls(unittest.TestCase):
    def asked(self, i, x, r):
        """All calls 8 to 14 about instance i, in each place, with row r of x where they have rows."""
        return (fixed(i, 0), fixed(0, i), fixed(i, i), fixed(i, 0, (x, r, 0)), fixed(0, i, (x, r, 0)),
                fixed(i, i, *[(x, r, r)] * 10), alike(i, 0), alike(0, i), alike(i, i), part(i), part(i, (x, r)),
                part(i, *[(x, r)] * 10), pieces(i), arrows(i, x), map_of(i, x, r), shows(i))

    def assert_refused(self, *begun):
        for i in ABOVE:
            for x, r in ((0, 0), (1, 0), (0, 6), (BIGGEST, BIGGEST)):
                calls = self.asked(i, x, r)
                self.assertEqual(told(*begun, *calls)[len(begun):], [[-2]] * len(calls))

    def test_all_three_are_there(self):
        for i in range(3):
            begun = (rows(i, 0, 1),)
            self.assertEqual(
                told(*begun, fixed(i, i, (0, 0, 0)), alike(i, i), part(i, (0, 0)), pieces(i), map_of(i, 0, 0),
                     arrows(i, 0), shows(i))[1:],
                [[1], [1], [1, 0, 0], [1, 0], [0], [1], [1]])

    def test_above_two_is_refused(self):
        self.assert_refused()
        self.assert_refused(rows(0, 0, 2))
        self.assert_refused(start(2), rows(0, 0, 2), rows(0, 1, 2))

    def test_ahead_of_no_category(self):
        self.assert_refused(arrow(0, 0))
        self.assert_refused(arrow(0, 0), rows(0, 0, 1))

    def test_ahead_of_an_instance_that_is_not_right(self):
        self.assert_refused(start(2), arrow(0, 1), rows(0, 0, 1))
        self.assert_refused(start(2), arrow(0, 1), rows(0, 0, 1), lead(0, 2, 0, 0))

    def test_ahead_of_too_many_arrows(self):
        self.assert_refused(start(2), *[arrow(0, 1)] * 6)

    def test_the_next_call_is_read_from_the_right_place(self):
        # What stands behind would be read as other calls if it were begun anywhere else.
        for i in ABOVE:
            for count in range(11):
                named = [(0, 0, 0)] * count
                pairs = [(0, 0)] * count
                self.assertEqual(
                    told(rows(0, 0, 2), fixed(i, 0, *named), shows(0), fixed(0, i, *named), shows(0), part(i, *pairs),
                         shows(0), fixed(0, 0, *named), part(0, *pairs), shows(0)),
                    [[2], [-2], [2], [-2], [2], [-2], [2], [2 if count else 4], [1, 0, 0] if count else [0], [2]])

    def test_refused_leaves_all_as_it_was(self):
        begun = (arrow(0, 0), rows(0, 0, 1), rows(1, 0, 2), rows(2, 0, 3), lead(2, 1, 0, 5))
        for i in ABOVE:
            self.assertEqual(
                told(*begun, *self.asked(i, 0, 0), shows(0), shows(1), shows(2))[-3:],
                [[1, 99], [2, 99, 99], [3, 5, 99, 99]])


if __name__ == "__main__":
    unittest.main()
