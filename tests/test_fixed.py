"""Point 4 of fixed, and how many maps take rows there."""

import unittest

from lines import BIGGEST, arrow, every, fixed, last, leads, make, rows, start, told


class WithoutArrows(unittest.TestCase):
    BEGUN = (rows(0, 0, 2), rows(1, 0, 3))

    def counted(self, i, j, *named):
        return last(*self.BEGUN, fixed(i, j, *named))

    def test_no_rows(self):
        self.assertEqual(self.counted(0, 1), [9])
        self.assertEqual(self.counted(1, 0), [8])
        self.assertEqual(self.counted(0, 0), [4])

    def test_one_row(self):
        for v in range(3):
            self.assertEqual(self.counted(0, 1, (0, 0, v)), [3])
            self.assertEqual(self.counted(0, 1, (0, 1, v)), [3])
        self.assertEqual(self.counted(1, 0, (0, 2, 1)), [4])

    def test_all_rows(self):
        self.assertEqual(self.counted(0, 1, (0, 0, 2), (0, 1, 0)), [1])
        self.assertEqual(self.counted(0, 1, (0, 1, 0), (0, 0, 2)), [1])

    def test_ten_rows(self):
        self.assertEqual(self.counted(0, 1, *[(0, 1, 2)] * 10), [3])
        self.assertEqual(self.counted(0, 1, *[(0, 1, 2), (0, 0, 0)] * 5), [1])
        self.assertEqual(self.counted(0, 1, *[(0, 1, 2)] * 9, (0, 1, 1)), [0])
        self.assertEqual(self.counted(0, 1, *[(0, 1, 2)] * 9, (0, 2, 2)), [-1])

    def test_told_twice_the_same_way(self):
        self.assertEqual(self.counted(0, 1, (0, 0, 1), (0, 0, 1)), [3])

    def test_told_twice_in_two_ways(self):
        self.assertEqual(self.counted(0, 1, (0, 0, 1), (0, 0, 2)), [0])
        self.assertEqual(self.counted(0, 1, (0, 0, 2), (0, 1, 0), (0, 0, 1)), [0])

    def test_a_row_to_go_to_that_is_not_there(self):
        for v in (3, 4, 99, BIGGEST):
            self.assertEqual(self.counted(0, 1, (0, 0, v)), [0])
            self.assertEqual(self.counted(0, 1, (0, 0, 1), (0, 1, v)), [0])
        self.assertEqual(self.counted(1, 0, (0, 2, 2)), [0])

    def test_without_rows_in_one_instance(self):
        self.assertEqual(self.counted(2, 0), [1])
        self.assertEqual(self.counted(0, 2), [0])
        self.assertEqual(self.counted(2, 2), [1])
        self.assertEqual(self.counted(0, 2, (0, 1, 0)), [0])

    def test_most_maps(self):
        begun = (rows(0, 0, 6), rows(1, 0, 6))
        self.assertEqual(
            told(*begun, fixed(0, 1), fixed(0, 1, (0, 5, 5)), fixed(0, 1, (0, 0, 3), (0, 5, 0)),
                 fixed(1, 0, (0, 3, 6)))[2:],
            [[46656], [7776], [1296], [0]])


class SeveralThings(unittest.TestCase):
    def test_rows_of_several_things(self):
        begun = (start(3), rows(0, 0, 1), rows(0, 1, 2), rows(0, 2, 1), rows(1, 0, 2), rows(1, 1, 2), rows(1, 2, 2))
        self.assertEqual(
            told(*begun, fixed(0, 1), fixed(0, 1, (1, 0, 1)), fixed(0, 1, (1, 1, 1), (0, 0, 0)),
                 fixed(0, 1, (2, 0, 1), (1, 0, 0), (0, 0, 1)),
                 fixed(0, 1, (2, 0, 1), (1, 0, 0), (1, 1, 0), (0, 0, 1)))[7:],
            [[16], [8], [4], [2], [1]])

    def test_each_question_against_all_maps(self):
        # One row of 0 leads to two of the three rows of 1; the third may go anywhere.
        begun = (start(2), arrow(0, 1), arrow(0, 1),
                 rows(0, 0, 1), rows(0, 1, 3), *leads(0, 2, (2,)), *leads(0, 3, (0,)),
                 rows(1, 0, 3), rows(1, 1, 3), *leads(1, 2, (2, 0, 2)), *leads(1, 3, (0, 1, 1)))
        found = every(begun, 0, 1)
        self.assertEqual(len(found), 9)
        places = [(0, 0), (1, 0), (1, 1), (1, 2)]
        for here, row in enumerate(places):
            for v in range(4):
                self.assertEqual(last(*begun, fixed(0, 1, (*row, v))), [sum(taken[here] == v for taken in found)])
                for there, other in enumerate(places):
                    self.assertEqual(
                        last(*begun, fixed(0, 1, (*row, v), (*other, 1))),
                        [sum(taken[here] == v and taken[there] == 1 for taken in found)])

    def test_arrows_bind_what_rows_may_do(self):
        begun = (start(2), arrow(1, 0), rows(0, 0, 2), rows(0, 1, 1), *leads(0, 2, (1,)))
        self.assertEqual(
            told(*begun, fixed(0, 0), fixed(0, 0, (0, 1, 1)), fixed(0, 0, (0, 1, 0)), fixed(0, 0, (0, 0, 0)))[5:],
            [[2], [2], [0], [1]])


class Refused(unittest.TestCase):
    # Instance 1 has more rows than 0 of each thing; those of the first one in the call count.
    BEGUN = (start(2), rows(0, 0, 1), rows(0, 1, 2), rows(1, 0, 2), rows(1, 1, 3))
    NOT_THERE = ((0, 1, 0), (0, BIGGEST, 0), (1, 2, 0), (2, 0, 0), (3, 0, 0), (BIGGEST, 0, 0),
                 (BIGGEST, BIGGEST, BIGGEST))

    def test_a_row_that_is_not_there(self):
        for row in self.NOT_THERE:
            self.assertEqual(last(*self.BEGUN, fixed(0, 1, row)), [-1], row)
            self.assertEqual(last(*self.BEGUN, fixed(0, 0, row)), [-1], row)

    def test_as_the_first_and_as_the_last_of_several(self):
        there = [(0, 0, 1), (1, 0, 1), (1, 1, 2)]
        self.assertEqual(last(*self.BEGUN, fixed(0, 1, *there)), [1])
        for row in self.NOT_THERE:
            self.assertEqual(last(*self.BEGUN, fixed(0, 1, row, *there)), [-1], row)
            self.assertEqual(last(*self.BEGUN, fixed(0, 1, *there, row)), [-1], row)

    def test_rows_of_the_first_instance_count(self):
        self.assertEqual(told(*self.BEGUN, fixed(1, 0, (1, 2, 1)), fixed(0, 1, (1, 2, 1)))[5:], [[4], [-1]])
        self.assertEqual(told(*self.BEGUN, fixed(2, 0, (0, 0, 0)), fixed(0, 2, (0, 0, 0)))[5:], [[-1], [0]])

    def test_also_where_no_map_could_be(self):
        self.assertEqual(last(*self.BEGUN, fixed(0, 1, (0, 0, 9), (0, 1, 0))), [-1])
        self.assertEqual(last(*self.BEGUN, fixed(0, 1, (0, 0, 0), (0, 0, 1), (0, 1, 0))), [-1])
        self.assertEqual(last(*self.BEGUN, fixed(0, 2, (0, 1, 0))), [-1])

    def test_no_category(self):
        begun = (arrow(0, 0), rows(0, 0, 1), rows(1, 0, 1))
        self.assertEqual(
            told(*begun, fixed(0, 1), fixed(2, 2), fixed(0, 1, (0, 0, 0)), fixed(0, 1, (0, 1, 0)))[3:], [[-6]] * 4)

    def test_an_instance_that_is_not_right(self):
        # Instance 0: not told; 1: right; 2: leads to a row that is not there.
        begun = (start(2), arrow(0, 1), rows(0, 0, 1), rows(1, 0, 1), rows(1, 1, 1), *leads(1, 2, (0,)),
                 rows(2, 0, 1), *leads(2, 2, (0,)))
        for i, j in ((0, 1), (1, 0), (0, 0), (2, 1), (1, 2), (2, 2), (0, 2)):
            self.assertEqual(
                told(*begun, fixed(i, j), fixed(i, j, (0, 0, 0)), fixed(i, j, (2, 0, 0)))[8:], [[-6]] * 3)
        self.assertEqual(
            told(*begun, fixed(1, 1), fixed(1, 1, (0, 0, 0)), fixed(1, 1, (2, 0, 0)))[8:], [[1], [1], [-1]])

    def test_an_instance_that_leads_elsewhere(self):
        begun = (arrow(0, 0), make(1, 1, 1), rows(0, 0, 2), *leads(0, 1, (1, 0)))
        self.assertEqual(told(*begun, fixed(0, 0), fixed(0, 1), fixed(1, 0), fixed(1, 1))[5:], [[-6], [-6], [-6], [1]])


class ChangesNothing(unittest.TestCase):
    def test_asked_twice(self):
        begun = (rows(0, 0, 2), rows(1, 0, 3))
        asked = (fixed(0, 1, (0, 0, 2)), fixed(0, 1, (0, 2, 2)), fixed(0, 1))
        self.assertEqual(told(*begun, *asked, *asked)[2:], [[3], [-1], [9]] * 2)


if __name__ == "__main__":
    unittest.main()
