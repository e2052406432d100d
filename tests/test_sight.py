"""What's seen, and what's far."""

import unittest

from cavekeys.places import far
from cavekeys.sight import part_way, seen_from, sees

ALL = {(column, row): True for column in range(39) for row in range(20)}


def without(*places):
    return {place: True for place in ALL if place not in places}


class FarTest(unittest.TestCase):
    def test_the_greater_of_both(self):
        for here, there, distance in (
            ((5, 5), (5, 5), 0), ((5, 5), (6, 6), 1), ((5, 5), (4, 5), 1), ((5, 5), (8, 4), 3), ((5, 5), (4, 9), 4),
        ):
            self.assertEqual(far(here, there), distance)
            self.assertEqual(far(there, here), distance)


class PartWayTest(unittest.TestCase):
    def test_nearest(self):
        self.assertEqual([part_way(5, step, 8) for step in range(1, 8)], [1, 1, 2, 3, 3, 4, 4])
        self.assertEqual([part_way(-5, step, 8) for step in range(1, 8)], [-1, -1, -2, -3, -3, -4, -4])
        self.assertEqual([part_way(0, step, 8) for step in range(1, 8)], [0] * 7)

    def test_halves_go_away(self):
        self.assertEqual([part_way(1, 1, 2), part_way(-1, 1, 2)], [1, -1])
        self.assertEqual([part_way(3, 1, 2), part_way(-3, 1, 2)], [2, -2])
        self.assertEqual([part_way(5, 1, 2), part_way(-5, 1, 2)], [3, -3])


class SightTest(unittest.TestCase):
    def test_eight_far_but_not_nine(self):
        here = (15, 10)
        for across, down in ((1, 0), (-1, 0), (0, 1), (0, -1), (1, 1), (-1, -1), (1, -1), (-1, 1)):
            self.assertTrue(sees(ALL, here, (15 + 8 * across, 10 + 8 * down)))
            self.assertFalse(sees(ALL, here, (15 + 9 * across, 10 + 9 * down)))

    def test_own_place_and_those_about_it(self):
        for column in (4, 5, 6):
            for row in (4, 5, 6):
                self.assertTrue(sees({}, (5, 5), (column, row)))

    def test_each_place_between_counts(self):
        for step in range(1, 8):
            self.assertFalse(sees(without((5 + step, 5)), (5, 5), (13, 5)))
            self.assertFalse(sees(without((5 + step, 5 + step)), (5, 5), (13, 13)))
        self.assertTrue(sees(without((13, 5)), (5, 5), (13, 5)))
        self.assertTrue(sees(without((5, 5)), (5, 5), (13, 5)))

    def test_halves_on_either_side(self):
        # From 5, 5 to 7, 6: between is 6, 5.5, so 6, 6; up: 6, 4.5, so 6, 4.
        for there, between, other in (
            ((7, 6), (6, 6), (6, 5)), ((7, 4), (6, 4), (6, 5)), ((3, 6), (4, 6), (4, 5)), ((3, 4), (4, 4), (4, 5)),
            ((6, 7), (6, 6), (5, 6)), ((4, 7), (4, 6), (5, 6)), ((6, 3), (6, 4), (5, 4)), ((4, 3), (4, 4), (5, 4)),
        ):
            self.assertFalse(sees(without(between), (5, 5), there))
            self.assertTrue(sees(without(other), (5, 5), there))

    def test_one_may_see_what_does_not_see_back(self):
        floor = without((6, 5))
        self.assertTrue(sees(floor, (5, 5), (7, 6)))
        self.assertTrue(sees(without((6, 6)), (7, 6), (5, 5)))
        self.assertFalse(sees(floor, (7, 6), (5, 5)))

    def test_a_whole_line(self):
        # 8 across and 3 down: 3/8, 6/8, 9/8, 12/8, 15/8, 18/8, 21/8.
        line = [(1, 0), (2, 1), (3, 1), (4, 2), (5, 2), (6, 2), (7, 3)]
        floor = {place: True for place in line}
        self.assertTrue(sees(floor, (0, 0), (8, 3)))
        for place in line:
            self.assertFalse(sees({other: True for other in line if other != place}, (0, 0), (8, 3)))

    def test_all_that_is_seen(self):
        seen = seen_from(ALL, (20, 10))
        told = {(column, row) for column in range(12, 29) for row in range(2, 19)}
        self.assertEqual(set(seen), told)

    def test_only_places_of_the_level(self):
        self.assertEqual(set(seen_from(ALL, (1, 1))), {(x, y) for x in range(10) for y in range(10)})
        self.assertEqual(set(seen_from(ALL, (1, 18))), {(x, y) for x in range(10) for y in range(10, 20)})
        self.assertEqual(set(seen_from(ALL, (37, 18))), {(x, y) for x in range(29, 39) for y in range(10, 20)})

    def test_closed_places_are_seen_and_hide_what_is_behind(self):
        self.assertEqual(set(seen_from({(5, 5): True}, (5, 5))), {(x, y) for x in (4, 5, 6) for y in (4, 5, 6)})


if __name__ == "__main__":
    unittest.main()
