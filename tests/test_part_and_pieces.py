"""Point 4 of part and pieces, what rows bring with them, and what hangs together."""

import itertools
import unittest

from lines import BIGGEST, arrow, last, leads, make, part, pieces, rows, start, told

# Orders, customers, towns; along 5 an order leads at once to its customer's town.
ORDERS = (start(3), arrow(0, 1), arrow(1, 2), arrow(0, 2), make(3, 4, 5),
          rows(0, 0, 2), rows(0, 1, 2), rows(0, 2, 2), *leads(0, 3, (1, 0)), *leads(0, 4, (1, 0)), *leads(0, 5, (0, 1)))


class Part(unittest.TestCase):
    def brought(self, begun, *named):
        """The rows that these bring with them; that their count is right is looked at."""
        answer = last(*begun, part(0, *named))
        found = list(zip(answer[1::2], answer[2::2]))
        self.assertEqual(len(answer), 1 + 2 * answer[0])
        return found

    def test_form(self):
        self.assertEqual(last(*ORDERS, part(0, (0, 0))), [3, 0, 0, 1, 1, 2, 0])

    def test_no_rows(self):
        self.assertEqual(told(part(0), rows(0, 0, 3), part(0)), [[0], [3], [0]])
        self.assertEqual(last(*ORDERS, part(0)), [0])

    def test_one_row_without_arrows(self):
        begun = (start(2), rows(0, 0, 2), rows(0, 1, 2))
        for row in ((0, 0), (0, 1), (1, 0), (1, 1)):
            self.assertEqual(self.brought(begun, row), [row])

    def test_rows_of_other_things(self):
        self.assertEqual(self.brought(ORDERS, (0, 0)), [(0, 0), (1, 1), (2, 0)])
        self.assertEqual(self.brought(ORDERS, (0, 1)), [(0, 1), (1, 0), (2, 1)])
        self.assertEqual(self.brought(ORDERS, (1, 0)), [(1, 0), (2, 1)])
        self.assertEqual(self.brought(ORDERS, (2, 1)), [(2, 1)])

    def test_several_rows_in_order_each_once(self):
        self.assertEqual(self.brought(ORDERS, (2, 1), (1, 1)), [(1, 1), (2, 0), (2, 1)])
        self.assertEqual(self.brought(ORDERS, (1, 1), (0, 0)), [(0, 0), (1, 1), (2, 0)])
        self.assertEqual(self.brought(ORDERS, (2, 0), (0, 1)), [(0, 1), (1, 0), (2, 0), (2, 1)])

    def test_all_rows(self):
        everything = [(x, r) for x in range(3) for r in range(2)]
        self.assertEqual(self.brought(ORDERS, *everything), everything)
        self.assertEqual(self.brought(ORDERS, *reversed(everything)), everything)
        self.assertEqual(self.brought(ORDERS, (0, 1), (0, 0)), everything)

    def test_told_twice(self):
        self.assertEqual(self.brought(ORDERS, (1, 0), (1, 0)), [(1, 0), (2, 1)])
        self.assertEqual(self.brought(ORDERS, *[(2, 1)] * 10), [(2, 1)])
        self.assertEqual(self.brought(ORDERS, *[(2, 1), (1, 1)] * 5), [(1, 1), (2, 0), (2, 1)])

    def test_rows_that_lead_to_one_row(self):
        begun = (start(2), arrow(0, 1), rows(0, 0, 3), rows(0, 1, 2), *leads(0, 2, (1, 1, 0)))
        self.assertEqual(self.brought(begun, (0, 0), (0, 1)), [(0, 0), (0, 1), (1, 1)])

    def test_along_an_arrow_to_an_earlier_thing(self):
        begun = (start(2), arrow(1, 0), rows(0, 0, 3), rows(0, 1, 2), *leads(0, 2, (2, 0)))
        self.assertEqual(self.brought(begun, (1, 0)), [(0, 2), (1, 0)])
        self.assertEqual(self.brought(begun, (1, 1), (1, 0)), [(0, 0), (0, 2), (1, 0), (1, 1)])

    def test_along_an_arrow_from_a_thing_to_itself(self):
        begun = (arrow(0, 0), make(1, 1, 1), rows(0, 0, 4), *leads(0, 1, (2, 1, 2, 1)))
        self.assertEqual(self.brought(begun, (0, 0)), [(0, 0), (0, 2)])
        self.assertEqual(self.brought(begun, (0, 1)), [(0, 1)])
        self.assertEqual(self.brought(begun, (0, 3)), [(0, 1), (0, 3)])

    def test_round_about(self):
        begun = (arrow(0, 0), arrow(0, 0), make(1, 1, 2), make(1, 2, 0), make(2, 1, 0), make(2, 2, 1),
                 rows(0, 0, 4), *leads(0, 1, (1, 2, 0, 3)), *leads(0, 2, (2, 0, 1, 3)))
        for r in range(3):
            self.assertEqual(self.brought(begun, (0, r)), [(0, 0), (0, 1), (0, 2)])
        self.assertEqual(self.brought(begun, (0, 3)), [(0, 3)])

    def test_changes_nothing(self):
        self.assertEqual(
            told(*ORDERS, part(0, (1, 0)), part(0, (3, 0)), pieces(0), part(0, (1, 0)))[-4:],
            [[2, 1, 0, 2, 1], [-1], [2, 0, 1, 1, 0, 0, 1], [2, 1, 0, 2, 1]])


class PartRefused(unittest.TestCase):
    BEGUN = (start(2), rows(0, 0, 1), rows(0, 1, 2), rows(1, 0, 3), rows(1, 1, 3))
    NOT_THERE = ((0, 1), (0, BIGGEST), (1, 2), (2, 0), (3, 0), (BIGGEST, 0), (BIGGEST, BIGGEST))

    def test_a_row_that_is_not_there(self):
        for row in self.NOT_THERE:
            self.assertEqual(last(*self.BEGUN, part(0, row)), [-1], row)
        self.assertEqual(last(part(0, (0, 0))), [-1])

    def test_as_the_first_and_as_the_last_of_several(self):
        there = [(0, 0), (1, 0), (1, 1)]
        self.assertEqual(last(*self.BEGUN, part(0, *there)), [3, 0, 0, 1, 0, 1, 1])
        for row in self.NOT_THERE:
            self.assertEqual(last(*self.BEGUN, part(0, row, *there)), [-1], row)
            self.assertEqual(last(*self.BEGUN, part(0, *there, row)), [-1], row)
            self.assertEqual(last(*self.BEGUN, part(0, *there * 3, row)), [-1], row)

    def test_no_category(self):
        begun = (arrow(0, 0), rows(0, 0, 1))
        self.assertEqual(
            told(*begun, part(0), part(1), part(0, (0, 0)), part(0, (0, 1)), pieces(0), pieces(1))[2:], [[-6]] * 6)

    def test_an_instance_that_is_not_right(self):
        # Instance 0: not told; 1: right; 2: leads to a row that is not there.
        begun = (start(2), arrow(0, 1), rows(0, 0, 1), rows(1, 0, 1), rows(1, 1, 1), *leads(1, 2, (0,)),
                 rows(2, 0, 1), *leads(2, 2, (0,)))
        for i in (0, 2):
            self.assertEqual(told(*begun, part(i), part(i, (0, 0)), part(i, (2, 0)), pieces(i))[8:], [[-6]] * 4)
        self.assertEqual(
            told(*begun, part(1), part(1, (0, 0)), part(1, (2, 0)), pieces(1))[8:],
            [[0], [2, 0, 0, 1, 0], [-1], [1, 0, 0]])

    def test_an_instance_that_leads_elsewhere(self):
        begun = (arrow(0, 0), make(1, 1, 1), rows(0, 0, 2), *leads(0, 1, (1, 0)))
        self.assertEqual(told(*begun, part(0), pieces(0), part(1), pieces(1))[5:], [[-6], [-6], [0], [0]])


class Pieces(unittest.TestCase):
    def test_no_rows(self):
        self.assertEqual(told(pieces(0), start(3), arrow(0, 1), pieces(2)), [[0], [3], [3], [0]])

    def test_without_arrows_each_row_is_one(self):
        for k in range(7):
            self.assertEqual(last(rows(1, 0, k), pieces(1)), [k, *range(k)])
        self.assertEqual(last(start(3), rows(0, 0, 1), rows(0, 2, 2), rows(0, 1, 1), pieces(0)), [4, 0, 1, 2, 3])

    def test_a_row_and_what_it_leads_to(self):
        begun = (start(2), arrow(0, 1), rows(0, 0, 2), rows(0, 1, 3))
        self.assertEqual(last(*begun, *leads(0, 2, (0, 1)), pieces(0)), [3, 0, 1, 0, 1, 2])
        self.assertEqual(last(*begun, *leads(0, 2, (2, 0)), pieces(0)), [3, 0, 1, 1, 2, 0])
        self.assertEqual(last(*begun, *leads(0, 2, (1, 1)), pieces(0)), [3, 0, 0, 1, 0, 2])

    def test_numbers_by_first_rows(self):
        begun = (start(2), arrow(1, 0), rows(0, 0, 3), rows(0, 1, 3), *leads(0, 2, (2, 0, 2)))
        self.assertEqual(last(*begun, pieces(0)), [3, 0, 1, 2, 2, 0, 2])

    def test_through_one_to_which_others_lead(self):
        # Rows 0 and 3 hang together, 1 and 2 and 4 too, along an arrow from the thing to itself.
        begun = (arrow(0, 0), make(1, 1, 1), rows(0, 0, 6), *leads(0, 1, (3, 4, 4, 3, 4, 5)))
        self.assertEqual(last(*begun, pieces(0)), [3, 0, 1, 1, 0, 1, 2])

    def test_over_several_others_only(self):
        # Rows of 0 lead to two of 1 each, the last to one: a chain of six rows, in whatever order they are numbered.
        for a, b, c in itertools.permutations(range(3)):
            for order in itertools.permutations(((a, b), (b, c), (c, c))):
                begun = (start(2), arrow(0, 1), arrow(0, 1), rows(0, 0, 3), rows(0, 1, 3),
                         *leads(0, 2, [ends[0] for ends in order]), *leads(0, 3, [ends[1] for ends in order]))
                self.assertEqual(last(*begun, pieces(0)), [1, 0, 0, 0, 0, 0, 0])

    def test_chain_and_a_row_apart(self):
        begun = (start(2), arrow(0, 1), arrow(0, 1), rows(0, 0, 2), rows(0, 1, 4))
        self.assertEqual(last(*begun, *leads(0, 2, (3, 1)), *leads(0, 3, (1, 0)), pieces(0)), [2, 0, 0, 0, 0, 1, 0])

    def test_through_three_things(self):
        self.assertEqual(last(*ORDERS, pieces(0)), [2, 0, 1, 1, 0, 0, 1])
        self.assertEqual(last(*ORDERS, *leads(0, 4, (0, 0)), *leads(0, 5, (0, 0)), pieces(0)), [2, 0, 0, 0, 0, 0, 1])

    def test_each_instance_for_itself(self):
        begun = (rows(0, 0, 1), rows(2, 0, 3))
        self.assertEqual(
            told(*begun, pieces(0), pieces(1), pieces(2), pieces(0))[2:], [[1, 0], [0], [3, 0, 1, 2], [1, 0]])


if __name__ == "__main__":
    unittest.main()
