"""Point 4 of maps and nth, and what a map is."""

import unittest

from lines import BIGGEST, arrow, every, last, lead, make, maps, nth, rows, start, told


class WithoutArrows(unittest.TestCase):
    def test_in_order(self):
        begun = (rows(0, 0, 2), rows(1, 0, 3))
        self.assertEqual(every(begun, 0, 1), [[a, b] for a in range(3) for b in range(3)])
        self.assertEqual(every(begun, 1, 0), [[a, b, c] for a in (0, 1) for b in (0, 1) for c in (0, 1)])

    def test_from_an_instance_to_itself(self):
        self.assertEqual(every((rows(2, 0, 2),), 2, 2), [[0, 0], [0, 1], [1, 0], [1, 1]])

    def test_without_rows_in_the_first_place(self):
        begun = (rows(0, 0, 2),)
        self.assertEqual(told(*begun, maps(1, 0), nth(1, 0, 0), nth(1, 0, 1))[1:], [[1], [], [-3]])

    def test_without_rows_in_the_second_place(self):
        begun = (rows(0, 0, 2),)
        self.assertEqual(told(*begun, maps(0, 1), nth(0, 1, 0), nth(0, 1, BIGGEST))[1:], [[0], [-3], [-3]])

    def test_without_rows_in_both(self):
        self.assertEqual(told(maps(0, 1), maps(2, 2), nth(0, 1, 0), nth(0, 1, 1)), [[1], [1], [], [-3]])

    def test_last_map_and_one_past_it(self):
        begun = (rows(0, 0, 6), rows(1, 0, 6))
        self.assertEqual(
            told(*begun, maps(0, 1), nth(0, 1, 46655), nth(0, 1, 46656), nth(0, 1, BIGGEST))[2:],
            [[46656, 0, 0, 0, 0, 0, 0], [5, 5, 5, 5, 5, 5], [-3], [-3]])

    def test_rows_of_several_things(self):
        begun = (start(2), rows(0, 0, 1), rows(0, 1, 2), rows(1, 0, 2), rows(1, 1, 3))
        self.assertEqual(
            every(begun, 0, 1), [[a, b, c] for a in range(2) for b in range(3) for c in range(3)])

    def test_rows_go_to_rows_of_the_same_thing(self):
        begun = (start(3), rows(0, 0, 1), rows(1, 1, 1), rows(2, 0, 1), rows(2, 2, 2))
        self.assertEqual(every(begun, 0, 1), [])
        self.assertEqual(every(begun, 0, 2), [[0]])
        self.assertEqual(every(begun, 2, 0), [])

    def test_order_of_things_not_of_calls(self):
        begun = (start(2), rows(0, 1, 1), rows(0, 0, 1), rows(1, 1, 2), rows(1, 0, 3))
        self.assertEqual(every(begun, 0, 1), [[a, b] for a in range(3) for b in range(2)])


class AlongArrows(unittest.TestCase):
    def test_arrow_to_a_later_thing(self):
        begun = (start(2), arrow(0, 1), rows(0, 0, 1), rows(0, 1, 1), lead(0, 2, 0, 0),
                 rows(1, 0, 2), rows(1, 1, 3), lead(1, 2, 0, 2), lead(1, 2, 1, 0))
        self.assertEqual(every(begun, 0, 1), [[0, 2], [1, 0]])
        self.assertEqual(every(begun, 0, 0), [[0, 0]])
        self.assertEqual(every(begun, 1, 0), [[0, 0, 0, 0, 0]])

    def test_arrow_to_an_earlier_thing(self):
        begun = (start(2), arrow(1, 0), rows(0, 0, 2), rows(0, 1, 1), lead(0, 2, 0, 1))
        self.assertEqual(every(begun, 0, 0), [[0, 1, 0], [1, 1, 0]])

    def test_arrow_to_the_same_thing(self):
        # Two rows that lead to one another, and one that leads to itself.
        begun = (arrow(0, 0), make(1, 1, 0), rows(0, 0, 2), lead(0, 1, 0, 1), lead(0, 1, 1, 0),
                 rows(1, 0, 1), lead(1, 1, 0, 0))
        self.assertEqual(every(begun, 0, 0), [[0, 1], [1, 0]])
        self.assertEqual(every(begun, 0, 1), [[0, 0]])
        self.assertEqual(every(begun, 1, 0), [])
        self.assertEqual(every(begun, 1, 1), [[0]])

    def test_rows_that_lead_to_one_row(self):
        begun = (start(2), arrow(0, 1), rows(0, 0, 2), rows(0, 1, 1), lead(0, 2, 0, 0), lead(0, 2, 1, 0),
                 rows(1, 0, 3), rows(1, 1, 2), lead(1, 2, 0, 1), lead(1, 2, 1, 0), lead(1, 2, 2, 1))
        self.assertEqual(every(begun, 0, 1), [[0, 0, 1], [0, 2, 1], [1, 1, 0], [2, 0, 1], [2, 2, 1]])

    def test_two_arrows_must_both_fit(self):
        begun = (start(2), arrow(0, 1), arrow(0, 1), rows(0, 0, 1), rows(0, 1, 2), lead(0, 2, 0, 0),
                 lead(0, 3, 0, 1), rows(1, 0, 2), rows(1, 1, 2), lead(1, 2, 0, 1), lead(1, 3, 0, 0),
                 lead(1, 2, 1, 1), lead(1, 3, 1, 1))
        self.assertEqual(every(begun, 0, 1), [[0, 1, 0], [1, 1, 1]])
        self.assertEqual(every(begun, 1, 0), [])

    def test_three_things(self):
        # Orders, customers, towns: two orders of one customer to two orders of two customers in one town.
        begun = (start(3), arrow(0, 1), arrow(1, 2), arrow(0, 2), make(3, 4, 5),
                 rows(0, 0, 2), rows(0, 1, 1), rows(0, 2, 1), lead(0, 3, 0, 0), lead(0, 3, 1, 0), lead(0, 4, 0, 0),
                 lead(0, 5, 0, 0), lead(0, 5, 1, 0),
                 rows(1, 0, 2), rows(1, 1, 2), rows(1, 2, 2), lead(1, 3, 0, 1), lead(1, 3, 1, 0), lead(1, 4, 0, 1),
                 lead(1, 4, 1, 1), lead(1, 5, 0, 1), lead(1, 5, 1, 1))
        self.assertEqual(every(begun, 0, 1), [[0, 0, 1, 1], [1, 1, 0, 1]])
        # Row 0 of towns has no customer, so it may go anywhere; there is but one.
        self.assertEqual(every(begun, 1, 0), [[a, b, 0, 0, 0, 0] for a in (0, 1) for b in (0, 1)])


class NotRight(unittest.TestCase):
    BEGUN = (start(2), arrow(0, 1), rows(0, 0, 1), rows(1, 0, 1), rows(1, 1, 1), lead(1, 2, 0, 0))

    def asked(self, i, j, *behind):
        begun = self.BEGUN + behind
        return [last(*begun, maps(i, j)), last(*begun, nth(i, j, 0)), last(*begun, nth(i, j, BIGGEST))]

    def test_not_told_in_the_first_or_the_second_place(self):
        self.assertEqual(self.asked(0, 1), [[-6], [-6], [-6]])
        self.assertEqual(self.asked(1, 0), [[-6], [-6], [-6]])
        self.assertEqual(self.asked(0, 0), [[-6], [-6], [-6]])

    def test_beside_one_without_rows(self):
        self.assertEqual(self.asked(0, 2), [[-6], [-6], [-6]])
        self.assertEqual(self.asked(2, 0), [[-6], [-6], [-6]])

    def test_no_such_row(self):
        self.assertEqual(self.asked(0, 1, lead(0, 2, 0, 0)), [[-6], [-6], [-6]])
        self.assertEqual(self.asked(1, 0, lead(0, 2, 0, 0)), [[-6], [-6], [-6]])

    def test_other_instances_do_not_matter(self):
        self.assertEqual(self.asked(1, 1), [[1, 0, 0], [0, 0], [-3]])
        self.assertEqual(self.asked(2, 1), [[1], [], [-3]])
        self.assertEqual(self.asked(1, 2), [[0], [-3], [-3]])

    def test_leads_elsewhere(self):
        begun = (arrow(0, 0), make(1, 1, 1), rows(0, 0, 2), lead(0, 1, 0, 1), lead(0, 1, 1, 0))
        self.assertEqual(
            told(*begun, maps(0, 0), maps(0, 1), maps(1, 0), nth(0, 1, 0), nth(1, 0, 0))[5:], [[-6]] * 5)
        self.assertEqual(told(*begun, make(1, 1, 0), maps(0, 0), nth(0, 0, 1))[5:], [[0], [2, 0, 1], [1, 0]])

    def test_no_category(self):
        self.assertEqual(
            told(arrow(0, 0), maps(0, 0), nth(0, 0, 0), nth(0, 0, BIGGEST)), [[1], [-6], [-6], [-6]])


class ChangeNothing(unittest.TestCase):
    def test_asked_twice(self):
        begun = (arrow(0, 0), make(1, 1, 1), rows(0, 0, 2), lead(0, 1, 0, 1), lead(0, 1, 1, 1))
        self.assertEqual(
            told(*begun, maps(0, 0), nth(0, 0, 1), nth(0, 0, 2), maps(0, 0), nth(0, 0, 1), lead(0, 1, 0, 0))[5:],
            [[2, 0, 1], [1, 1], [-3], [2, 0, 1], [1, 1], [1]])


if __name__ == "__main__":
    unittest.main()
