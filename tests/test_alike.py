"""Point 4 of alike, and by how many maps instances are alike."""

import unittest

from lines import alike, arrow, last, leads, make, maps, rows, start, told

# One arrow from thing 0 to itself that, twice, makes itself.
TWICE_ITSELF = (arrow(0, 0), make(1, 1, 1))


class WithoutArrows(unittest.TestCase):
    def test_as_many_rows(self):
        for k, count in enumerate((1, 1, 2, 6, 24, 120, 720)):
            self.assertEqual(last(rows(0, 0, k), rows(1, 0, k), alike(0, 1)), [count])

    def test_other_numbers_of_rows(self):
        for k in range(7):
            for m in range(7):
                if k != m:
                    self.assertEqual(last(rows(0, 0, k), rows(1, 0, m), alike(0, 1)), [0])

    def test_no_rows_at_all(self):
        self.assertEqual(told(alike(0, 1), alike(0, 0), start(3), alike(1, 2)), [[1], [1], [3], [1]])

    def test_from_an_instance_to_itself(self):
        self.assertEqual(last(rows(2, 0, 4), alike(2, 2)), [24])

    def test_several_things(self):
        begun = (start(2), rows(0, 0, 2), rows(0, 1, 3), rows(1, 0, 2), rows(1, 1, 3), rows(2, 0, 3), rows(2, 1, 2))
        self.assertEqual(
            told(*begun, alike(0, 1), alike(1, 0), alike(0, 0), alike(0, 2), alike(2, 0))[7:],
            [[12], [12], [12], [0], [0]])

    def test_rows_of_each_thing_count_for_themselves(self):
        # Two rows of 0 to row 0 and two rows of 1 to row 1 are not each row once.
        begun = (start(2), rows(0, 0, 2), rows(0, 1, 2))
        self.assertEqual(told(*begun, maps(0, 0), alike(0, 0))[3:], [[16, 0, 0, 0, 0], [4]])

    def test_rows_of_one_thing_alone(self):
        begun = (start(3), rows(0, 1, 2), rows(1, 1, 2), rows(2, 0, 2))
        self.assertEqual(told(*begun, alike(0, 1), alike(0, 2), alike(2, 0))[4:], [[2], [0], [0]])


class AlongArrows(unittest.TestCase):
    def test_only_some_maps_take_rows_to_each_once(self):
        begun = (*TWICE_ITSELF, rows(0, 0, 3), *leads(0, 1, (0, 0, 0)), rows(1, 0, 3), *leads(1, 1, (2, 2, 2)))
        self.assertEqual(
            told(*begun, maps(0, 0), alike(0, 0), maps(0, 1), alike(0, 1), alike(1, 0))[10:],
            [[9, 0, 0, 0], [2], [9, 2, 0, 0], [2], [2]])

    def test_maps_but_none_that_takes_rows_to_each_once(self):
        begun = (*TWICE_ITSELF, rows(0, 0, 3), *leads(0, 1, (0, 0, 0)), rows(1, 0, 3), *leads(1, 1, (0, 1, 1)))
        answered = told(*begun, maps(0, 1), maps(1, 0), alike(0, 1), alike(1, 0))[10:]
        self.assertGreater(answered[0][0], 0)
        self.assertGreater(answered[1][0], 0)
        self.assertEqual(answered[2:], [[0], [0]])

    def test_each_row_led_to(self):
        begun = (start(2), arrow(0, 1), rows(0, 0, 3), rows(0, 1, 3), *leads(0, 2, (0, 1, 2)),
                 rows(1, 0, 3), rows(1, 1, 3), *leads(1, 2, (2, 0, 1)),
                 rows(2, 0, 3), rows(2, 1, 3), *leads(2, 2, (0, 0, 1)))
        self.assertEqual(
            told(*begun, alike(0, 0), alike(0, 1), alike(1, 0), alike(0, 2), alike(2, 0), alike(2, 2))[17:],
            [[6], [6], [6], [0], [0], [2]])

    def test_as_many_of_one_thing_and_other_numbers_of_another(self):
        begun = (start(2), arrow(0, 1), rows(0, 0, 2), rows(0, 1, 2), *leads(0, 2, (0, 1)),
                 rows(1, 0, 2), rows(1, 1, 3), *leads(1, 2, (0, 1)))
        self.assertEqual(told(*begun, alike(0, 1), alike(1, 0), alike(1, 1))[10:], [[0], [0], [2]])

    def test_round_about(self):
        # Three rows, each leading to the next along 1 and to the one ahead along 2.
        begun = (arrow(0, 0), arrow(0, 0), make(1, 1, 2), make(1, 2, 0), make(2, 1, 0), make(2, 2, 1),
                 rows(0, 0, 3), *leads(0, 1, (1, 2, 0)), *leads(0, 2, (2, 0, 1)),
                 rows(1, 0, 3), *leads(1, 1, (2, 0, 1)), *leads(1, 2, (1, 2, 0)))
        self.assertEqual(told(*begun, alike(0, 0), alike(0, 1), alike(1, 0))[20:], [[3], [3], [3]])


class Refused(unittest.TestCase):
    def test_no_category(self):
        self.assertEqual(told(arrow(0, 0), alike(0, 1), alike(0, 0))[1:], [[-6], [-6]])

    def test_an_instance_that_is_not_right(self):
        # Instance 0: not told; 1: right; 2: leads to a row that is not there.
        begun = (start(2), arrow(0, 1), rows(0, 0, 1), rows(1, 0, 1), rows(1, 1, 1), *leads(1, 2, (0,)),
                 rows(2, 0, 1), *leads(2, 2, (0,)))
        for i, j in ((0, 1), (1, 0), (0, 0), (2, 1), (1, 2), (2, 2), (2, 0)):
            self.assertEqual(last(*begun, alike(i, j)), [-6])
        self.assertEqual(last(*begun, alike(1, 1)), [1])

    def test_an_instance_that_leads_elsewhere(self):
        begun = (*TWICE_ITSELF, rows(0, 0, 2), *leads(0, 1, (1, 0)))
        self.assertEqual(
            told(*begun, alike(0, 0), alike(0, 1), alike(1, 0), make(1, 1, 0), alike(0, 0), alike(0, 1))[5:],
            [[-6], [-6], [-6], [0], [2], [0]])


if __name__ == "__main__":
    unittest.main()
