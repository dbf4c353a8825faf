"""Point 4 of check, and what a category and a right instance are."""

import unittest

from lines import arrow, check, last, lead, leads, make, maps, nth, rows, start, told

# One thing; whatever two of the arrows 1 and 2 make is 1.
ALL_MAKE_ONE = (arrow(0, 0), arrow(0, 0), make(1, 1, 1), make(1, 2, 1), make(2, 1, 1), make(2, 2, 1))


class NoCategory(unittest.TestCase):
    def asked(self, *begun):
        """What check, maps and nth answer."""
        return [last(*begun, check(0)), last(*begun, maps(0, 1)), last(*begun, nth(0, 1, 0))]

    def assert_none(self, *begun):
        self.assertEqual(self.asked(*begun), [[-6], [-6], [-6]])

    def assert_one(self, *begun):
        self.assertEqual(self.asked(*begun), [[0], [1], []])

    def test_own_arrows_alone(self):
        for n in (1, 2, 3):
            self.assert_one(start(n))

    def test_arrows_that_do_not_meet(self):
        self.assert_one(start(3), arrow(0, 1), arrow(0, 2), arrow(0, 1))

    def test_a_pair_is_not_told(self):
        self.assert_none(arrow(0, 0))
        self.assert_none(start(3), arrow(0, 1), arrow(1, 2))
        self.assert_none(start(3), arrow(1, 2), arrow(0, 1))

    def test_one_of_several_pairs_is_not_told(self):
        for missing in range(2, 6):
            begun = [call for place, call in enumerate(ALL_MAKE_ONE) if place != missing]
            self.assert_none(*begun)
        self.assert_one(*ALL_MAKE_ONE)

    def test_what_is_told_leads_from_elsewhere(self):
        begun = (start(2), arrow(0, 1), arrow(1, 1), make(3, 3, 3))
        self.assert_none(*begun, make(2, 3, 3))
        self.assert_none(*begun, make(2, 3, 1))
        self.assert_one(*begun, make(2, 3, 2))

    def test_what_is_told_leads_to_elsewhere(self):
        begun = (start(2), arrow(0, 1), arrow(0, 0), make(3, 3, 3))
        self.assert_none(*begun, make(3, 2, 3))
        self.assert_none(*begun, make(3, 2, 0))
        self.assert_one(*begun, make(3, 2, 2))

    def test_three_taken_together_differ(self):
        begun = (arrow(0, 0), arrow(0, 0), make(1, 1, 2), make(1, 2, 1), make(2, 2, 2))
        self.assert_none(*begun, make(2, 1, 2))
        self.assert_one(*begun, make(2, 1, 1))

    def test_three_one_behind_another_differ(self):
        # 2 and 4 lead from 0 to 1, 3 from 1 to 1: 2, 3, 3 and 4, 3, 3 are all threes but 3, 3, 3.
        begun = (start(2), arrow(0, 1), arrow(1, 1), arrow(0, 1), make(3, 3, 3))
        self.assert_one(*begun, make(2, 3, 4), make(4, 3, 4))
        self.assert_none(*begun, make(2, 3, 4), make(4, 3, 2))

    def test_three_with_a_thing_s_own_in_between(self):
        # 2 and 3 make 0's own, 3 and 2 make 1's own: each leads back.
        begun = (start(2), arrow(0, 1), arrow(1, 0))
        self.assert_one(*begun, make(2, 3, 0), make(3, 2, 1))
        self.assert_none(*begun, make(2, 3, 0), make(3, 2, 0))
        self.assert_none(*begun, make(2, 3, 1), make(3, 2, 1))

    def test_own_made_by_two_differs_behind_a_third(self):
        # 1 and 1 make the own arrow, so 1, 1, 2 make 2; 1 behind what 1 and 2 make must be that.
        begun = (arrow(0, 0), arrow(0, 0), make(1, 1, 0), make(2, 1, 2), make(2, 2, 2))
        self.assert_one(*begun, make(1, 2, 2))
        self.assert_none(*begun, make(1, 2, 1))

    def test_goes_ahead_of_an_instance_s_faults(self):
        begun = (arrow(0, 0), rows(0, 0, 1))
        self.assert_none(*begun)
        self.assertEqual(last(*begun, make(1, 1, 1), check(0)), [1, 1, 0])

    def test_rows_do_not_need_a_category(self):
        self.assertEqual(told(arrow(0, 0), rows(0, 0, 1), lead(0, 1, 0, 0)), [[1], [1], [99]])


class Missing(unittest.TestCase):
    BEGUN = (start(2), arrow(0, 1), arrow(0, 1), rows(0, 0, 2), rows(0, 1, 1))

    def test_right_without_rows(self):
        self.assertEqual(last(*ALL_MAKE_ONE, check(0)), [0])

    def test_not_told_by_arrow_then_row(self):
        calls = list(self.BEGUN)
        for f, r in ((2, 0), (2, 1), (3, 0), (3, 1)):
            self.assertEqual(last(*calls, check(0)), [1, f, r])
            calls.append(lead(0, f, r, 0))
        self.assertEqual(last(*calls, check(0)), [0])

    def test_no_such_row_by_arrow_then_row(self):
        calls = list(self.BEGUN) + leads(0, 2, (1, 98)) + leads(0, 3, (5, 1))
        for f, r in ((2, 0), (2, 1), (3, 0), (3, 1)):
            self.assertEqual(last(*calls, check(0)), [2, f, r])
            calls.append(lead(0, f, r, 0))
        self.assertEqual(last(*calls, check(0)), [0])

    def test_both_come_by_arrow_then_row(self):
        self.assertEqual(last(*self.BEGUN, lead(0, 2, 0, 1), check(0)), [2, 2, 0])
        self.assertEqual(last(*self.BEGUN, lead(0, 2, 1, 1), check(0)), [1, 2, 0])
        self.assertEqual(last(*self.BEGUN, lead(0, 2, 0, 0), lead(0, 2, 1, 1), check(0)), [2, 2, 1])
        self.assertEqual(last(*self.BEGUN, *leads(0, 2, (0, 0)), lead(0, 3, 1, 1), check(0)), [1, 3, 0])

    def test_rows_are_those_of_the_thing_led_to(self):
        begun = (start(2), arrow(1, 0), rows(0, 0, 1), rows(0, 1, 3))
        self.assertEqual(last(*begun, *leads(0, 2, (0, 0, 1)), check(0)), [2, 2, 2])
        begun = (start(2), arrow(1, 0), rows(0, 0, 3), rows(0, 1, 1))
        self.assertEqual(last(*begun, lead(0, 2, 0, 2), check(0)), [0])

    def test_each_instance_is_looked_at_for_itself(self):
        begun = self.BEGUN + (rows(2, 0, 1), lead(2, 2, 0, 4))
        self.assertEqual(told(*begun, check(0), check(1), check(2))[-3:], [[1, 2, 0], [0], [2, 2, 0]])

    def test_changes_nothing(self):
        self.assertEqual(told(*self.BEGUN, check(0), check(0), rows(0, 1, 1))[-3:], [[1, 2, 0], [1, 2, 0], [3]])


class Elsewhere(unittest.TestCase):
    def of_two(self, along_one, along_two):
        return last(*ALL_MAKE_ONE, rows(0, 0, 3), *leads(0, 1, along_one), *leads(0, 2, along_two), check(0))

    def test_none(self):
        self.assertEqual(self.of_two((0, 0, 0), (0, 0, 0)), [0])
        self.assertEqual(self.of_two((0, 0, 0), (0, 0, 1)), [0])

    def test_by_row(self):
        self.assertEqual(self.of_two((1, 0, 2), (0, 0, 0)), [3, 1, 1, 0])
        self.assertEqual(self.of_two((0, 2, 1), (0, 0, 0)), [3, 1, 1, 1])
        self.assertEqual(self.of_two((0, 0, 1), (0, 0, 0)), [3, 1, 1, 2])

    def test_second_arrow_goes_ahead_of_the_row(self):
        # With 1 and 2 row 0 is at fault, but 1 and 1 with its row 2 come first.
        self.assertEqual(self.of_two((0, 0, 1), (2, 0, 0)), [3, 1, 1, 2])
        self.assertEqual(self.of_two((0, 0, 0), (2, 0, 0)), [3, 1, 2, 0])

    def test_first_arrow_goes_ahead_of_the_second(self):
        # With 2 and 1 row 1 is at fault, with 2 and 2 too; with 1 and 2 no row is.
        self.assertEqual(self.of_two((0, 0, 2), (0, 2, 2)), [3, 2, 1, 1])
        self.assertEqual(self.of_two((0, 0, 0), (0, 1, 0)), [3, 2, 2, 1])
        # With 1 and 2 row 1 is at fault, with 2 and 1 row 0 already.
        self.assertEqual(self.of_two((2, 1, 2), (1, 2, 2)), [3, 1, 2, 1])

    def test_what_is_missing_goes_ahead(self):
        begun = ALL_MAKE_ONE + (rows(0, 0, 3),) + tuple(leads(0, 1, (1, 0, 2)))
        self.assertEqual(last(*begun, check(0)), [1, 2, 0])
        self.assertEqual(last(*begun, *leads(0, 2, (0, 0, 3)), check(0)), [2, 2, 2])
        self.assertEqual(last(*begun, *leads(0, 2, (0, 0, 0)), check(0)), [3, 1, 1, 0])

    def test_made_with_itself_is_its_thing_s_own(self):
        begun = (arrow(0, 0), make(1, 1, 0), rows(0, 0, 3))
        self.assertEqual(last(*begun, *leads(0, 1, (1, 0, 2)), check(0)), [0])
        self.assertEqual(last(*begun, *leads(0, 1, (1, 2, 0)), check(0)), [3, 1, 1, 0])
        self.assertEqual(last(*begun, *leads(0, 1, (0, 1, 1)), check(0)), [3, 1, 1, 2])

    def test_made_with_itself_is_itself(self):
        begun = (arrow(0, 0), make(1, 1, 1), rows(0, 0, 3))
        self.assertEqual(last(*begun, *leads(0, 1, (1, 1, 1)), check(0)), [0])
        self.assertEqual(last(*begun, *leads(0, 1, (0, 0, 1)), check(0)), [3, 1, 1, 2])
        self.assertEqual(last(*begun, *leads(0, 1, (1, 2, 0)), check(0)), [3, 1, 1, 0])

    def test_through_three_things(self):
        # Orders, customers and towns; along 3 and 4 an order leads to its customer's town, along 5 at once.
        begun = (start(3), arrow(0, 1), arrow(1, 2), arrow(0, 2), make(3, 4, 5),
                 rows(1, 0, 2), rows(1, 1, 2), rows(1, 2, 2), *leads(1, 3, (1, 0)), *leads(1, 4, (0, 1)))
        self.assertEqual(last(*begun, *leads(1, 5, (1, 0)), check(1)), [0])
        self.assertEqual(last(*begun, *leads(1, 5, (0, 0)), check(1)), [3, 3, 4, 0])
        self.assertEqual(last(*begun, *leads(1, 5, (1, 1)), check(1)), [3, 3, 4, 1])


if __name__ == "__main__":
    unittest.main()
