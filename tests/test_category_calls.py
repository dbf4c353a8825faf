"""Point 1: start, arrow and make."""

import unittest

from lines import BIGGEST, arrow, check, last, lead, make, maps, rows, start, told


class Start(unittest.TestCase):
    def test_one_to_three_things(self):
        self.assertEqual(told(start(1), start(2), start(3)), [[1], [2], [3]])

    def test_other_counts_are_refused(self):
        for n in (0, 4, 5, BIGGEST):
            self.assertEqual(told(start(n)), [[-1]])

    def test_beginning_of_a_line_is_one_thing(self):
        self.assertEqual(told(arrow(0, 1), arrow(1, 0), arrow(0, 0)), [[-1], [-1], [1]])

    def test_beginning_of_a_line_has_no_row(self):
        for i in range(3):
            self.assertEqual(told(maps(i, i), lead(i, 0, 0, 0), check(i)), [[1], [-1], [0]])

    def test_things_bring_their_own_arrows(self):
        for n in (1, 2, 3):
            self.assertEqual(last(start(n), arrow(n - 1, 0)), [n])
            self.assertEqual(last(start(n), arrow(n, 0)), [-1])

    def test_again_in_a_line_takes_arrows_away(self):
        self.assertEqual(
            told(start(2), arrow(0, 1), start(1), make(2, 2, 2), arrow(0, 1), arrow(0, 0)),
            [[2], [2], [1], [-3], [-1], [1]])

    def test_again_in_a_line_takes_away_what_arrows_make(self):
        self.assertEqual(
            told(arrow(0, 0), make(1, 1, 1), check(0), start(1), arrow(0, 0), check(0)),
            [[1], [1], [0], [1], [1], [-6]])

    def test_again_in_a_line_takes_the_rows_of_all_instances_away(self):
        filled = (rows(0, 0, 2), rows(1, 0, 2), rows(2, 0, 2))
        for i in range(3):
            self.assertEqual(last(*filled, maps(i, i)), [4, 0, 0])
            self.assertEqual(last(*filled, start(1), maps(i, i)), [1])

    def test_refused_leaves_all_as_it_was(self):
        for n in (0, 4, BIGGEST):
            self.assertEqual(
                told(start(2), arrow(0, 1), rows(1, 0, 2), start(n), lead(1, 2, 1, 7), arrow(0, 1)),
                [[2], [2], [2], [-1], [99], [3]])


class Arrow(unittest.TestCase):
    def test_numbers_go_on_behind_the_own_arrows(self):
        self.assertEqual(told(start(3), arrow(0, 1), arrow(2, 2), arrow(2, 0)), [[3], [3], [4], [5]])

    def test_leads_from_the_first_thing_to_the_second(self):
        begun = (start(2), arrow(0, 1), rows(0, 0, 1), rows(0, 1, 2))
        self.assertEqual(told(*begun, lead(0, 2, 1, 0), lead(0, 2, 0, 1), check(0))[4:], [[-1], [99], [0]])

    def test_thing_that_is_not_there(self):
        for x in (2, 3, BIGGEST):
            self.assertEqual(told(start(2), arrow(x, 0), arrow(0, x), arrow(x, x)), [[2], [-1], [-1], [-1]])

    def test_nine_arrows_are_the_most(self):
        for n in (1, 2, 3):
            calls = [start(n)] + [arrow(0, 0)] * (10 - n)
            self.assertEqual(told(*calls), [[n]] + [[f] for f in range(n, 9)] + [[-5]])

    def test_no_such_thing_goes_ahead_of_nine_arrows(self):
        calls = [arrow(0, 0)] * 8
        for x in (1, BIGGEST):
            self.assertEqual(told(*calls, arrow(x, 0), arrow(0, x), arrow(0, 0))[8:], [[-1], [-1], [-5]])

    def test_takes_all_rows_of_all_instances_away(self):
        filled = (start(2), rows(0, 0, 2), rows(1, 1, 2), rows(2, 0, 1), rows(2, 1, 1))
        for i in range(3):
            self.assertEqual(len(last(*filled, maps(i, i))), 3)
            self.assertEqual(last(*filled, arrow(0, 1), maps(i, i)), [1])

    def test_takes_where_rows_lead_away(self):
        self.assertEqual(
            last(arrow(0, 0), rows(0, 0, 1), lead(0, 1, 0, 0), arrow(0, 0), rows(0, 0, 1), lead(0, 1, 0, 0)), [99])

    def test_leaves_what_arrows_make(self):
        others = (make(1, 2, 1), make(2, 1, 1), make(2, 2, 1))
        self.assertEqual(last(arrow(0, 0), make(1, 1, 1), arrow(0, 0), *others, check(0)), [0])

    def test_refused_leaves_the_rows(self):
        self.assertEqual(told(rows(0, 0, 2), arrow(0, 1), maps(0, 0)), [[2], [-1], [4, 0, 0]])
        nine = [arrow(0, 0)] * 8
        self.assertEqual(
            told(*nine, rows(0, 0, 2), lead(0, 8, 1, 1), arrow(0, 0), lead(0, 8, 1, 0), rows(0, 0, 2))[8:],
            [[2], [99], [-5], [1], [2]])


class Make(unittest.TestCase):
    def test_answers_what_they_make(self):
        self.assertEqual(told(arrow(0, 0), make(1, 1, 1), make(1, 1, 0)), [[1], [1], [0]])

    def test_arrow_that_is_not_there(self):
        begun = (start(1), arrow(0, 0))
        for f in (2, 3, BIGGEST):
            self.assertEqual(
                told(*begun, make(f, 1, 1), make(1, f, 1), make(1, 1, f), make(f, f, f))[2:],
                [[-3], [-3], [-3], [-3]])

    def test_arrow_that_is_not_there_goes_ahead(self):
        begun = (start(2), arrow(0, 1))
        self.assertEqual(
            told(*begun, make(0, 3, 2), make(3, 0, 2), make(0, 2, 3), make(2, 0, 3), make(2, 2, 3))[2:], [[-3]] * 5)

    def test_own_arrow_is_refused(self):
        begun = (start(1), arrow(0, 0))
        self.assertEqual(told(*begun, make(0, 1, 1), make(1, 0, 1), make(0, 0, 0))[2:], [[-1], [-1], [-1]])

    def test_two_that_do_not_meet(self):
        begun = (start(3), arrow(0, 1), arrow(1, 2), arrow(0, 2))
        self.assertEqual(
            told(*begun, make(4, 3, 5), make(3, 3, 3), make(3, 5, 5), make(3, 4, 5))[4:], [[-1], [-1], [-1], [5]])

    def test_third_arrow_may_lead_elsewhere(self):
        begun = (start(3), arrow(0, 1), arrow(1, 2))
        for h in range(5):
            self.assertEqual(last(*begun, make(3, 4, h)), [h])

    def test_the_first_stands_ahead(self):
        # What 1 and 2 make is another than what 2 and 1 make: each takes what stands ahead.
        begun = (arrow(0, 0), arrow(0, 0), make(1, 1, 1), make(2, 2, 2), make(1, 2, 1), make(2, 1, 2))
        self.assertEqual(
            told(*begun, rows(0, 0, 2), lead(0, 1, 0, 0), lead(0, 1, 1, 0), lead(0, 2, 0, 1), lead(0, 2, 1, 1),
                 check(0))[6:],
            [[2], [99], [99], [99], [99], [3, 1, 2, 0]])

    def test_second_time_another_is_made(self):
        begun = (arrow(0, 0), make(1, 1, 1), rows(0, 0, 2), lead(0, 1, 0, 1), lead(0, 1, 1, 0))
        self.assertEqual(told(*begun, check(0), make(1, 1, 0), check(0))[5:], [[3, 1, 1, 0], [0], [0]])

    def test_leaves_the_rows(self):
        begun = (arrow(0, 0), rows(0, 0, 1), rows(1, 0, 2), rows(2, 0, 3), lead(2, 1, 2, 1))
        self.assertEqual(
            told(*begun, make(1, 1, 1), lead(0, 1, 0, 0), lead(1, 1, 1, 0), lead(2, 1, 2, 0), lead(2, 1, 3, 0))[5:],
            [[1], [99], [99], [1], [-1]])

    def test_refused_leaves_what_was_told(self):
        begun = (arrow(0, 0), make(1, 1, 0))
        self.assertEqual(told(*begun, make(1, 1, 2), make(0, 1, 0), check(0))[2:], [[-3], [-1], [0]])


if __name__ == "__main__":
    unittest.main()
