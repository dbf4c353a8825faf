"""Point 4 of arrows and mapOf, a thing's arrows as rows, and that maps from them are its rows."""

import unittest

from lines import BIGGEST, arrow, arrows, check, every, last, lead, leads, make, map_of, maps, rows, shows, start, told

# Arrow 1 twice makes itself.
TWICE_ITSELF = (arrow(0, 0), make(1, 1, 1))
# Arrow 1 twice makes the thing's own.
TWICE_OWN = (arrow(0, 0), make(1, 1, 0))
# Of arrows 1 and 2 two make the first; or the second.
MAKE_FIRST = (arrow(0, 0), arrow(0, 0), make(1, 1, 1), make(1, 2, 1), make(2, 1, 2), make(2, 2, 2))
MAKE_SECOND = (arrow(0, 0), arrow(0, 0), make(1, 1, 1), make(1, 2, 2), make(2, 1, 1), make(2, 2, 2))
# Arrow 2 leads from 0 to 1 and 3 leads back.
THERE_AND_BACK = (start(2), arrow(0, 1), arrow(1, 0), make(2, 3, 0), make(3, 2, 1))
# From 1 two arrows, 2 and 4, lead to 0; 3 leads from 1 to itself, and 4 is what it makes with 2.
TO_AN_EARLIER = (start(2), arrow(1, 0), arrow(1, 1), arrow(1, 0), make(3, 3, 3), make(3, 2, 4), make(3, 4, 4))
# Orders, customers, towns, and two ways from an order to a town; the customer's town is the second.
ORDERS = (start(3), arrow(0, 1), arrow(1, 2), arrow(0, 2), arrow(0, 2), make(3, 4, 6))


def between_two(count):
    """Two things and so many arrows from 0 to 1: with 0's own one more leads from 0."""
    return [start(2)] + [arrow(0, 1)] * count


class ArrowsAsRows(unittest.TestCase):
    def assert_shown(self, begun, x, shown):
        """That x's arrows as rows are shown so, in each instance, and are right."""
        count = sum(shown[:begun[0][1] if begun and begun[0][0] == 0 else 1])
        for i in range(3):
            self.assertEqual(told(*begun, arrows(i, x), shows(i), check(i))[len(begun):], [[count], shown, [0]])

    def test_own_arrow_alone(self):
        self.assert_shown((), 0, [1])
        self.assert_shown((start(3),), 0, [1, 0, 0])
        self.assert_shown((start(3),), 1, [0, 1, 0])
        self.assert_shown((start(3),), 2, [0, 0, 1])

    def test_one_thing(self):
        self.assert_shown(TWICE_ITSELF, 0, [2, 1, 1])
        self.assert_shown(MAKE_FIRST, 0, [3, 1, 1, 2, 2, 1, 2])
        self.assert_shown(MAKE_SECOND, 0, [3, 1, 1, 1, 2, 2, 2])

    def test_arrows_that_make_an_own_arrow(self):
        self.assert_shown(TWICE_OWN, 0, [2, 1, 0])
        self.assert_shown(THERE_AND_BACK, 0, [1, 1, 0, 0])
        self.assert_shown(THERE_AND_BACK, 1, [1, 1, 0, 0])
        round_about = (arrow(0, 0), arrow(0, 0), make(1, 1, 2), make(1, 2, 0), make(2, 1, 0), make(2, 2, 1))
        self.assert_shown(round_about, 0, [3, 1, 2, 0, 2, 0, 1])

    def test_two_things(self):
        self.assert_shown((start(2), arrow(0, 1)), 0, [1, 1, 0])
        self.assert_shown((start(2), arrow(0, 1)), 1, [0, 1])
        self.assert_shown((start(2), arrow(1, 0)), 0, [1, 0])
        self.assert_shown((start(2), arrow(1, 0)), 1, [1, 1, 0])

    def test_several_arrows_between_two_things(self):
        self.assert_shown(between_two(3), 0, [1, 3, 0, 1, 2])
        self.assert_shown(between_two(3), 1, [0, 1])
        self.assert_shown(TO_AN_EARLIER, 0, [1, 0])
        self.assert_shown(TO_AN_EARLIER, 1, [2, 2, 0, 1, 1, 1, 1, 1])

    def test_three_things(self):
        self.assert_shown(ORDERS, 0, [1, 1, 2, 0, 1, 0, 1])
        self.assert_shown(ORDERS, 1, [0, 1, 1, 0])
        self.assert_shown(ORDERS, 2, [0, 0, 1])

    def test_six_arrows_from_a_thing(self):
        self.assertEqual(
            told(*between_two(5), arrows(0, 0), shows(0), check(0))[6:], [[6], [1, 5, 0, 1, 2, 3, 4], [0]])

    def test_what_there_was_is_gone(self):
        begun = (start(2), arrow(0, 1), rows(0, 0, 3), rows(0, 1, 2), *leads(0, 2, (1, 1, 0)))
        self.assertEqual(told(*begun, arrows(0, 1), shows(0), check(0))[-3:], [[1], [0, 1], [0]])
        self.assertEqual(told(*begun, arrows(0, 0), shows(0), check(0))[-3:], [[2], [1, 1, 0], [0]])
        self.assertEqual(told(*begun, arrows(0, 0), arrows(0, 1), shows(0))[-3:], [[2], [1], [0, 1]])

    def test_over_one_that_was_not_right(self):
        begun = (start(2), arrow(0, 1), rows(0, 0, 3), rows(0, 1, 2))
        self.assertEqual(told(*begun, check(0), arrows(0, 0), shows(0), check(0))[4:], [[1, 2, 0], [2], [1, 1, 0], [0]])
        begun += (*leads(0, 2, (1, 98, 0)),)
        self.assertEqual(told(*begun, check(0), arrows(0, 0), shows(0), check(0))[7:], [[2, 2, 1], [2], [1, 1, 0], [0]])
        begun = (*TWICE_ITSELF, rows(0, 0, 2), *leads(0, 1, (1, 0)))
        self.assertEqual(
            told(*begun, check(0), arrows(0, 0), shows(0), check(0))[5:], [[3, 1, 1, 0], [2], [2, 1, 1], [0]])

    def test_other_instances_stay(self):
        begun = (*TWICE_ITSELF, *[rows(i, 0, i + 1) for i in range(3)], lead(0, 1, 0, 7), lead(2, 1, 2, 5))
        self.assertEqual(
            told(*begun, arrows(1, 0), shows(0), shows(1), shows(2))[7:], [[2], [1, 7], [2, 1, 1], [3, 99, 99, 5]])

    def test_may_be_changed_behind_it(self):
        begun = (*TWICE_ITSELF, arrows(0, 0))
        self.assertEqual(
            told(*begun, lead(0, 1, 0, 0), shows(0), arrows(1, 0), shows(1), rows(0, 0, 3), shows(0), shows(1))[3:],
            [[1], [2, 0, 1], [2], [2, 1, 1], [3], [3, 99, 99, 99], [2, 1, 1]])

    def test_two_instances_stand_apart(self):
        begun = (*TWICE_OWN, arrows(0, 0), arrows(1, 0))
        self.assertEqual(told(*begun, lead(0, 1, 0, 0), shows(0), shows(1))[4:], [[1], [2, 0, 0], [2, 1, 0]])


class ArrowsRefused(unittest.TestCase):
    def assert_refused(self, begun, i, x, refusal):
        """That arrows is refused, and all three instances and the category are as they were then."""
        seen = (shows(0), shows(1), shows(2), check(i))
        before = told(*begun, *seen)[-4:]
        self.assertEqual(told(*begun, arrows(i, x), *seen)[-5:], [[refusal]] + before)

    def test_no_category(self):
        begun = (arrow(0, 0), rows(0, 0, 2), lead(0, 1, 1, 0))
        for x in (0, 1, BIGGEST):
            self.assert_refused(begun, 0, x, -6)
            self.assert_refused(begun, 1, x, -6)
        self.assert_refused((start(2), arrow(0, 1), arrow(1, 1), make(3, 3, 3), make(2, 3, 3)), 0, 0, -6)

    def test_thing_that_is_not_there(self):
        begun = (start(2), arrow(0, 1), rows(0, 0, 2), lead(0, 2, 1, 0))
        for x in (2, 3, BIGGEST):
            self.assert_refused(begun, 0, x, -1)
            self.assert_refused(begun, 2, x, -1)
        self.assert_refused((), 0, 1, -1)

    def test_seven_arrows_from_a_thing(self):
        begun = (*between_two(6), rows(0, 0, 1), rows(0, 1, 1), lead(0, 2, 0, 0))
        self.assert_refused(begun, 0, 0, -5)
        self.assert_refused(begun, 1, 0, -5)
        self.assert_refused(between_two(7), 2, 0, -5)
        self.assertEqual(told(*begun, arrows(0, 1), shows(0))[-2:], [[1], [0, 1]])

    def test_no_category_goes_ahead_of_seven_arrows(self):
        self.assert_refused((*between_two(6), arrow(1, 1)), 0, 0, -6)
        self.assert_refused((*between_two(6), arrow(1, 1)), 0, 2, -6)

    def test_what_an_instance_holds_does_not_matter(self):
        # Six rows are no more than six where they take the place of six.
        begun = (*between_two(5), rows(0, 0, 6))
        self.assertEqual(told(*begun, arrows(0, 0), arrows(0, 0))[-2:], [[6], [6]])


class MapsAreRows(unittest.TestCase):
    def assert_rows(self, begun, x, expected):
        """That mapOf tells these maps to instance 0, by rows, and that there are no others."""
        told_by_row = [last(*begun, map_of(0, x, r)) for r in range(len(expected))]
        self.assertEqual(told_by_row, expected)
        self.assertEqual(last(*begun, map_of(0, x, len(expected))), [-1])
        self.assertEqual(every((*begun, arrows(1, x)), 1, 0), sorted(expected))
        self.assertEqual(last(*begun, arrows(1, x), maps(1, 0))[0], len(expected))

    def test_own_arrow_alone(self):
        self.assert_rows((rows(0, 0, 3),), 0, [[0], [1], [2]])
        self.assert_rows((start(3), rows(0, 1, 2)), 1, [[0], [1]])

    def test_no_rows(self):
        self.assert_rows((), 0, [])
        self.assert_rows((start(2), rows(0, 1, 2)), 0, [])
        self.assert_rows(ORDERS, 0, [])

    def test_one_thing(self):
        self.assert_rows((*TWICE_ITSELF, rows(0, 0, 3), *leads(0, 1, (2, 1, 2))), 0, [[0, 2], [1, 1], [2, 2]])
        begun = (*MAKE_SECOND, rows(0, 0, 4), *leads(0, 1, (0, 0, 2, 2)), *leads(0, 2, (1, 1, 3, 3)))
        self.assert_rows(begun, 0, [[0, 0, 1], [1, 0, 1], [2, 2, 3], [3, 2, 3]])

    def test_arrows_that_make_an_own_arrow(self):
        self.assert_rows((*TWICE_OWN, rows(0, 0, 3), *leads(0, 1, (1, 0, 2))), 0, [[0, 1], [1, 0], [2, 2]])
        begun = (*THERE_AND_BACK, rows(0, 0, 2), rows(0, 1, 2), *leads(0, 2, (1, 0)), *leads(0, 3, (1, 0)))
        self.assert_rows(begun, 0, [[0, 1], [1, 0]])
        self.assert_rows(begun, 1, [[1, 0], [0, 1]])

    def test_several_arrows_between_two_things(self):
        begun = (*between_two(2), rows(0, 0, 3), rows(0, 1, 3), *leads(0, 2, (2, 0, 1)), *leads(0, 3, (1, 0, 2)))
        self.assert_rows(begun, 0, [[0, 2, 1], [1, 0, 0], [2, 1, 2]])
        self.assert_rows(begun, 1, [[0], [1], [2]])

    def test_own_arrow_behind_others(self):
        # Rows of thing 0, arrows 2 and 4, come ahead of those of thing 1, its own and 3.
        begun = (*TO_AN_EARLIER, rows(0, 0, 2), rows(0, 1, 2), *leads(0, 2, (1, 0)), *leads(0, 3, (1, 1)),
                 *leads(0, 4, (0, 0)))
        self.assertEqual(last(*begun, check(0)), [0])
        self.assert_rows(begun, 1, [[1, 0, 0, 1], [0, 0, 1, 1]])
        self.assert_rows(begun, 0, [[0], [1]])

    def test_three_things(self):
        begun = (*ORDERS, rows(0, 0, 2), rows(0, 1, 2), rows(0, 2, 2), *leads(0, 3, (1, 0)), *leads(0, 4, (0, 1)),
                 *leads(0, 5, (0, 1)), *leads(0, 6, (1, 0)))
        self.assert_rows(begun, 0, [[0, 1, 0, 1], [1, 0, 1, 0]])
        self.assert_rows(begun, 1, [[0, 0], [1, 1]])
        self.assert_rows(begun, 2, [[0], [1]])

    def test_to_arrows_as_rows(self):
        begun = (*MAKE_FIRST, arrows(0, 0))
        self.assert_rows(begun, 0, [[0, 1, 2], [1, 1, 1], [2, 2, 2]])
        begun = (*ORDERS, arrows(0, 0))
        self.assert_rows(begun, 1, [[0, 1]])

    def test_six_arrows(self):
        begun = (*between_two(5), rows(0, 0, 2), rows(0, 1, 4),
                 *[lead(0, f, r, (f + r) % 4) for f in range(2, 7) for r in range(2)])
        self.assert_rows(begun, 0, [[0, 2, 3, 0, 1, 2], [1, 3, 0, 1, 2, 3]])

    def test_more_arrows_than_an_instance_may_have_rows(self):
        begun = (*between_two(7), rows(0, 0, 2), rows(0, 1, 4),
                 *[lead(0, f, r, (f + r) % 4) for f in range(2, 9) for r in range(2)])
        self.assertEqual(
            told(*begun, arrows(1, 0), map_of(0, 0, 0), map_of(0, 0, 1))[-3:],
            [[-5], [0, 2, 3, 0, 1, 2, 3, 0], [1, 3, 0, 1, 2, 3, 0, 1]])


class MapOfRefused(unittest.TestCase):
    BEGUN = (start(2), rows(0, 0, 1), rows(0, 1, 2), rows(1, 0, 3))

    def test_thing_that_is_not_there(self):
        for x in (2, 3, BIGGEST):
            self.assertEqual(told(*self.BEGUN, map_of(0, x, 0), map_of(0, x, BIGGEST))[4:], [[-1], [-1]])

    def test_row_that_is_not_there(self):
        self.assertEqual(
            told(*self.BEGUN, map_of(0, 0, 1), map_of(0, 1, 2), map_of(0, 1, BIGGEST), map_of(1, 1, 0), map_of(2, 0, 0),
                 map_of(0, 1, 1), map_of(1, 0, 2))[4:],
            [[-1], [-1], [-1], [-1], [-1], [1], [2]])

    def test_no_category(self):
        begun = (arrow(0, 0), rows(0, 0, 1), lead(0, 1, 0, 0))
        self.assertEqual(
            told(*begun, map_of(0, 0, 0), map_of(0, 1, 0), map_of(0, 0, 1), map_of(1, 0, 0))[3:], [[-6]] * 4)

    def test_an_instance_that_is_not_right(self):
        # Instance 0: not told; 1: right; 2: leads to a row that is not there.
        begun = (start(2), arrow(0, 1), rows(0, 0, 1), rows(1, 0, 1), rows(1, 1, 1), *leads(1, 2, (0,)),
                 rows(2, 0, 1), *leads(2, 2, (0,)))
        for i in (0, 2):
            self.assertEqual(
                told(*begun, map_of(i, 0, 0), map_of(i, 1, 0), map_of(i, 2, 0), map_of(i, 0, BIGGEST))[8:], [[-6]] * 4)
        self.assertEqual(
            told(*begun, map_of(1, 0, 0), map_of(1, 1, 0), map_of(1, 2, 0), map_of(1, 0, 1))[8:],
            [[0, 0], [0], [-1], [-1]])

    def test_an_instance_that_leads_elsewhere(self):
        begun = (*TWICE_ITSELF, rows(0, 0, 2), *leads(0, 1, (1, 0)))
        self.assertEqual(told(*begun, map_of(0, 0, 0), make(1, 1, 0), map_of(0, 0, 0))[5:], [[-6], [0], [0, 1]])

    def test_changes_nothing(self):
        begun = (*TWICE_ITSELF, rows(0, 0, 3), *leads(0, 1, (2, 1, 2)))
        self.assertEqual(
            told(*begun, map_of(0, 0, 0), map_of(0, 0, 3), shows(0), shows(1), shows(2), map_of(0, 0, 0))[6:],
            [[0, 2], [-1], [3, 2, 1, 2], [0], [0], [0, 2]])


if __name__ == "__main__":
    unittest.main()
