"""Point 2: an instance above 2 is refused ahead of all else."""

import unittest

from lines import BIGGEST, arrow, check, last, lead, maps, nth, rows, start, told

ABOVE = (3, 4, BIGGEST)


class InstanceNumbers(unittest.TestCase):
    def test_all_three_are_there(self):
        for i in range(3):
            self.assertEqual(
                told(arrow(0, 0), rows(i, 0, 1), lead(i, 1, 0, 0), start(1), check(i), maps(i, 2), nth(i, 2, 0)),
                [[1], [1], [99], [1], [0], [1], []])

    def test_above_two_is_refused(self):
        begun = (arrow(0, 0), rows(0, 0, 1))
        for i in ABOVE:
            self.assertEqual(
                told(*begun, rows(i, 0, 1), lead(i, 1, 0, 0))[2:], [[-2], [-2]])
            self.assertEqual(
                told(check(i), maps(i, 0), maps(0, i), maps(i, i), nth(i, 0, 0), nth(0, i, 0), nth(i, i, 0)),
                [[-2]] * 7)

    def test_ahead_of_a_thing_that_is_not_there_and_of_too_many_rows(self):
        for i in ABOVE:
            self.assertEqual(told(rows(i, 1, 1), rows(i, 0, 7), rows(i, BIGGEST, BIGGEST)), [[-2], [-2], [-2]])

    def test_ahead_of_what_set_refuses(self):
        for i in ABOVE:
            self.assertEqual(
                told(lead(i, 1, 0, 0), lead(i, 0, 0, 0), lead(i, 9, 9, 100), lead(i, BIGGEST, BIGGEST, BIGGEST)),
                [[-2]] * 4)

    def test_ahead_of_no_category(self):
        for i in ABOVE:
            asked = (check(i), maps(i, 0), maps(0, i), nth(i, 0, 0), nth(0, i, 0))
            self.assertEqual(told(arrow(0, 0), *asked)[1:], [[-2]] * 5)

    def test_ahead_of_an_instance_that_is_not_right(self):
        begun = (start(2), arrow(0, 1), rows(0, 0, 1), maps(0, 0))
        for i in ABOVE:
            self.assertEqual(
                told(*begun, maps(i, 0), maps(0, i), nth(i, 0, 0), nth(0, i, 0))[3:], [[-6]] + [[-2]] * 4)

    def test_ahead_of_no_such_map(self):
        for i in ABOVE:
            self.assertEqual(told(nth(i, 0, 1), nth(0, i, BIGGEST)), [[-2], [-2]])

    def test_refused_leaves_all_as_it_was(self):
        begun = (arrow(0, 0), rows(0, 0, 1), rows(1, 0, 1), rows(2, 0, 1), lead(2, 1, 0, 5))
        for i in ABOVE:
            for k in range(3):
                self.assertEqual(
                    last(*begun, rows(i, 0, 0), lead(i, 1, 0, 6), lead(k, 1, 0, 7)), [5] if k == 2 else [99])


if __name__ == "__main__":
    unittest.main()
