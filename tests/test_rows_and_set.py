"""Point 3: rows and set."""

import unittest

from lines import BIGGEST, arrow, check, last, lead, make, maps, rows, start, told


class Rows(unittest.TestCase):
    def test_answers_how_many_there_are_in_all(self):
        self.assertEqual(
            told(start(3), rows(0, 0, 1), rows(0, 1, 2), rows(0, 2, 3), rows(1, 2, 4), rows(2, 1, 0)),
            [[3], [1], [3], [6], [4], [0]])

    def test_thing_that_is_not_there(self):
        self.assertEqual(told(rows(0, 1, 1), rows(0, BIGGEST, 1), rows(0, 1, 0)), [[-1], [-1], [-1]])
        self.assertEqual(told(start(3), rows(0, 3, 1), rows(0, 2, 1)), [[3], [-1], [1]])

    def test_six_rows_and_one_more(self):
        self.assertEqual(told(rows(0, 0, 6), rows(1, 0, 7), rows(2, 0, BIGGEST)), [[6], [-5], [-5]])

    def test_six_rows_of_several_things_and_one_more(self):
        begun = (start(3), rows(0, 0, 1), rows(0, 1, 2), rows(0, 2, 3))
        self.assertEqual(
            told(*begun, rows(0, 0, 2), rows(0, 1, 3), rows(0, 2, 4), rows(0, 2, BIGGEST), rows(0, 2, 3))[4:],
            [[-5], [-5], [-5], [-5], [6]])

    def test_thing_that_is_not_there_goes_ahead_of_too_many(self):
        self.assertEqual(told(rows(0, 1, 7), rows(0, BIGGEST, BIGGEST)), [[-1], [-1]])

    def test_the_new_count_takes_the_place_of_the_old_one(self):
        self.assertEqual(told(rows(0, 0, 6), rows(0, 0, 5), rows(0, 0, 6), rows(0, 0, 0)), [[6], [5], [6], [0]])

    def test_fewer_than_before(self):
        begun = (arrow(0, 0), rows(0, 0, 3), lead(0, 1, 2, 0), rows(0, 0, 2))
        self.assertEqual(told(*begun, lead(0, 1, 2, 0), lead(0, 1, 1, 0))[3:], [[2], [-1], [99]])

    def test_instances_count_for_themselves(self):
        self.assertEqual(
            told(rows(0, 0, 6), rows(1, 0, 6), rows(2, 0, 6), rows(1, 0, 1), maps(1, 1)), [[6], [6], [6], [1], [1, 0]])

    def test_refused_leaves_all_as_it_was(self):
        begun = (arrow(0, 0), rows(0, 0, 3), lead(0, 1, 2, 0))
        self.assertEqual(told(*begun, rows(0, 0, 7), rows(0, 1, 1), lead(0, 1, 2, 1))[3:], [[-5], [-1], [0]])


class Forgotten(unittest.TestCase):
    # Arrow 3 from 0 to 0, 4 from 0 to 1, 5 from 1 to 2, 6 from 1 to 1, 7 from 2 to 0, 8 from 2 to 2.
    ARROWS = ((0, 0), (0, 1), (1, 2), (1, 1), (2, 0), (2, 2))

    def begun(self):
        calls = [start(3)] + [arrow(x, y) for x, y in self.ARROWS]
        calls += [rows(i, x, 2) for i in (0, 1) for x in range(3)]
        calls += [lead(i, f, 1, f + 10 * i) for i in (0, 1) for f in range(3, 9)]
        return calls

    def left(self, i, *behind):
        return [last(*self.begun(), *behind, lead(i, f, 1, 0)) for f in range(3, 9)]

    def test_nothing_without_rows(self):
        self.assertEqual(self.left(0), [[3], [4], [5], [6], [7], [8]])

    def test_along_arrows_from_and_to_the_thing_alone(self):
        self.assertEqual(self.left(0, rows(0, 0, 2)), [[99], [99], [5], [6], [99], [8]])
        self.assertEqual(self.left(0, rows(0, 1, 2)), [[3], [99], [99], [99], [7], [8]])
        self.assertEqual(self.left(0, rows(0, 2, 2)), [[3], [4], [99], [6], [99], [99]])

    def test_with_fewer_rows_too(self):
        self.assertEqual(self.left(0, rows(0, 1, 1)), [[3], [99], [-1], [-1], [7], [8]])
        self.assertEqual(self.left(0, rows(0, 1, 0)), [[3], [99], [-1], [-1], [7], [8]])

    def test_other_instances_stay(self):
        self.assertEqual(self.left(1, rows(0, 1, 2)), [[13], [14], [15], [16], [17], [18]])

    def test_refused_forgets_nothing(self):
        self.assertEqual(self.left(0, rows(0, 1, 3), rows(0, 3, 0)), [[3], [4], [5], [6], [7], [8]])


class Set(unittest.TestCase):
    def test_answers_where_it_led_before(self):
        begun = (arrow(0, 0), rows(0, 0, 2))
        self.assertEqual(
            told(*begun, lead(0, 1, 1, 0), lead(0, 1, 1, 1), lead(0, 1, 1, 0), lead(0, 1, 0, 0))[2:],
            [[99], [0], [1], [99]])

    def test_along_an_arrow_that_is_not_there(self):
        begun = (start(2), arrow(0, 1), rows(0, 0, 1))
        self.assertEqual(told(*begun, lead(0, 3, 0, 0), lead(0, BIGGEST, 0, 0))[3:], [[-3], [-3]])

    def test_along_an_own_arrow(self):
        begun = (start(2), rows(0, 0, 1), rows(0, 1, 1))
        self.assertEqual(told(*begun, lead(0, 0, 0, 0), lead(0, 1, 0, 0), lead(0, 0, 0, 99))[3:], [[-1], [-1], [-1]])

    def test_from_a_row_that_is_not_there(self):
        begun = (start(2), arrow(0, 1), rows(0, 0, 1), rows(0, 1, 3), rows(1, 0, 3))
        self.assertEqual(
            told(*begun, lead(0, 2, 1, 0), lead(0, 2, BIGGEST, 0), lead(2, 2, 0, 0), lead(0, 2, 0, 0))[5:],
            [[-1], [-1], [-1], [99]])

    def test_to_98_99_and_100(self):
        begun = (arrow(0, 0), rows(0, 0, 1), lead(0, 1, 0, 5))
        self.assertEqual(told(*begun, lead(0, 1, 0, 98), lead(0, 1, 0, 0))[3:], [[5], [98]])
        self.assertEqual(told(*begun, lead(0, 1, 0, 99), lead(0, 1, 0, 0))[3:], [[5], [99]])
        self.assertEqual(told(*begun, lead(0, 1, 0, 100), lead(0, 1, 0, 0))[3:], [[-1], [5]])
        self.assertEqual(told(*begun, lead(0, 1, 0, BIGGEST), lead(0, 1, 0, 0))[3:], [[-1], [5]])

    def test_99_is_not_told_any_more(self):
        begun = (arrow(0, 0), make(1, 1, 1), rows(0, 0, 1), lead(0, 1, 0, 0), check(0))
        self.assertEqual(told(*begun, lead(0, 1, 0, 99), check(0))[4:], [[0], [0], [1, 1, 0]])

    def test_98_is_a_row_that_is_not_there(self):
        begun = (arrow(0, 0), make(1, 1, 1), rows(0, 0, 6), lead(0, 1, 0, 98))
        self.assertEqual(last(*begun, check(0)), [2, 1, 0])

    def test_no_such_arrow_goes_ahead(self):
        self.assertEqual(told(lead(0, 1, 0, 0), lead(0, 1, 0, 100), lead(0, 1, 9, 100)), [[-3], [-3], [-3]])

    def test_instances_and_rows_and_arrows_stand_for_themselves(self):
        begun = (arrow(0, 0), arrow(0, 0), rows(0, 0, 2), rows(1, 0, 2), lead(0, 1, 0, 3))
        self.assertEqual(
            told(*begun, lead(1, 1, 0, 0), lead(0, 2, 0, 0), lead(0, 1, 1, 0), lead(0, 1, 0, 0))[5:],
            [[99], [99], [99], [3]])


if __name__ == "__main__":
    unittest.main()
