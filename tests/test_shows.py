"""shows: what an instance has of each thing, and where its rows lead."""

import unittest

from lines import BIGGEST, arrow, arrows, check, last, lead, leads, make, rows, shows, start, told


class Shows(unittest.TestCase):
    # Arrow 2 leads from 1 to 0, 3 from 0 to 1, 4 from 1 to itself. What they make is not told: it is no category.
    ARROWS = (start(2), arrow(1, 0), arrow(0, 1), arrow(1, 1))
    FILLED = ARROWS + (rows(0, 0, 1), rows(0, 1, 2))

    def test_without_rows(self):
        for i in range(3):
            self.assertEqual(told(shows(i), start(2), shows(i), start(3), shows(i)), [[0], [2], [0, 0], [3], [0, 0, 0]])
            self.assertEqual(last(*self.ARROWS, shows(i)), [0, 0])

    def test_without_arrows(self):
        begun = (start(3), rows(1, 0, 1), rows(1, 2, 4))
        self.assertEqual(told(*begun, shows(0), shows(1), shows(2))[3:], [[0, 0, 0], [1, 0, 4], [0, 0, 0]])

    def test_nothing_told(self):
        self.assertEqual(last(arrow(0, 0), rows(0, 0, 2), shows(0)), [2, 99, 99])
        self.assertEqual(last(*self.FILLED, shows(0)), [1, 2, 99, 99, 99, 99, 99])

    def test_all_told_by_arrow_then_row(self):
        told_all = (*leads(0, 4, (14, 15)), *leads(0, 3, (13,)), *leads(0, 2, (11, 12)))
        self.assertEqual(last(*self.FILLED, *told_all, shows(0)), [1, 2, 11, 12, 13, 14, 15])

    def test_some_told(self):
        self.assertEqual(last(*self.FILLED, lead(0, 2, 1, 0), shows(0)), [1, 2, 99, 0, 99, 99, 99])
        self.assertEqual(last(*self.FILLED, lead(0, 3, 0, 1), shows(0)), [1, 2, 99, 99, 1, 99, 99])
        self.assertEqual(last(*self.FILLED, lead(0, 4, 0, 1), shows(0)), [1, 2, 99, 99, 99, 1, 99])

    def test_behind_set_with_99(self):
        begun = (arrow(0, 0), rows(0, 0, 2), *leads(0, 1, (1, 0)), shows(0))
        self.assertEqual(told(*begun, lead(0, 1, 0, 99), shows(0))[4:], [[2, 1, 0], [1], [2, 99, 0]])

    def test_behind_set_with_a_row_that_is_not_there(self):
        begun = (arrow(0, 0), rows(0, 0, 2))
        self.assertEqual(last(*begun, *leads(0, 1, (2, 98)), shows(0)), [2, 2, 98])

    def test_behind_a_refused_set(self):
        begun = (arrow(0, 0), rows(0, 0, 2), lead(0, 1, 0, 1))
        self.assertEqual(
            told(*begun, lead(0, 1, 0, 100), lead(0, 1, 2, 0), lead(0, 0, 0, 1), lead(0, 2, 0, 0), shows(0))[3:],
            [[-1], [-1], [-1], [-3], [2, 1, 99]])

    def test_behind_rows(self):
        begun = (*self.FILLED, *leads(0, 2, (0, 0)), *leads(0, 3, (1,)), *leads(0, 4, (1, 1)))
        self.assertEqual(last(*begun, rows(0, 0, 1), shows(0)), [1, 2, 99, 99, 99, 1, 1])
        self.assertEqual(last(*begun, rows(0, 0, 2), shows(0)), [2, 2, 99, 99, 99, 99, 1, 1])
        self.assertEqual(last(*begun, rows(0, 0, 0), shows(0)), [0, 2, 99, 99, 1, 1])
        self.assertEqual(last(*begun, rows(0, 1, 1), shows(0)), [1, 1, 99, 99, 99])
        self.assertEqual(last(*begun, rows(0, 1, 0), shows(0)), [1, 0, 99])

    def test_behind_refused_rows(self):
        begun = (*self.FILLED, *leads(0, 2, (0, 0)))
        self.assertEqual(
            told(*begun, rows(0, 0, 5), rows(0, 2, 1), shows(0))[8:], [[-5], [-1], [1, 2, 0, 0, 99, 99, 99]])

    def test_behind_arrow_and_start(self):
        begun = (*self.FILLED, rows(2, 0, 1), lead(0, 3, 0, 1))
        for i in range(3):
            self.assertEqual(last(*begun, arrow(0, 0), shows(i)), [0, 0])
            self.assertEqual(last(*begun, start(3), shows(i)), [0, 0, 0])
            self.assertEqual(last(*begun, start(1), shows(i)), [0])

    def test_behind_refused_arrow_and_start(self):
        begun = (*self.FILLED, lead(0, 3, 0, 1))
        self.assertEqual(
            told(*begun, arrow(0, 2), start(4), start(0), shows(0))[7:], [[-1], [-1], [-1], [1, 2, 99, 99, 1, 99, 99]])

    def test_behind_arrows(self):
        begun = (arrow(0, 0), make(1, 1, 0), rows(1, 0, 6), arrows(1, 0))
        self.assertEqual(told(*begun, shows(0), shows(1))[4:], [[0], [2, 1, 0]])

    def test_no_category_and_not_right(self):
        begun = (arrow(0, 0), rows(0, 0, 1), lead(0, 1, 0, 0))
        self.assertEqual(told(*begun, check(0), shows(0), make(1, 1, 1), shows(0))[3:], [[-6], [1, 0], [1], [1, 0]])
        self.assertEqual(
            told(*begun, make(1, 1, 1), lead(0, 1, 0, 99), check(0), shows(0))[5:], [[1, 1, 0], [1, 99]])
        self.assertEqual(
            told(*begun, make(1, 1, 1), lead(0, 1, 0, 1), check(0), shows(0))[5:], [[2, 1, 0], [1, 1]])
        begun = (arrow(0, 0), make(1, 1, 1), rows(0, 0, 2), *leads(0, 1, (1, 0)))
        self.assertEqual(told(*begun, check(0), shows(0))[5:], [[3, 1, 1, 0], [2, 1, 0]])

    def test_most_arrows_and_rows(self):
        begun = [arrow(0, 0)] * 8 + [rows(0, 0, 6)]
        self.assertEqual(last(*begun, shows(0)), [6] + [99] * 48)
        self.assertEqual(last(*begun, lead(0, 8, 5, 4), shows(0)), [6] + [99] * 47 + [4])

    def test_instance_that_is_not_there(self):
        for i in (3, BIGGEST):
            self.assertEqual(told(shows(i), arrow(0, 0), rows(0, 0, 1), shows(i), shows(0))[3:], [[-2], [1, 99]])

    def test_changes_nothing(self):
        begun = (*self.FILLED, lead(0, 2, 1, 0))
        self.assertEqual(told(*begun, shows(0), shows(0), lead(0, 2, 1, 5), shows(0))[7:],
                         [[1, 2, 99, 0, 99, 99, 99]] * 2 + [[0], [1, 2, 99, 5, 99, 99, 99]])


if __name__ == "__main__":
    unittest.main()
