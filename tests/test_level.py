"""Promise 1: the level that a seed makes, worked out from the document's words, draw by draw."""

import unittest

from helper import Script

from cavekeys.draws import Draws
from cavekeys.level import CROWN, make_level

# Seed 1. Each row: the limits in their order, and what is drawn.
ONE_ROOMS = [
    ((7, 5), (5, 2), (3, 1), (4, 0)),  # 9 by 5, from column 2, row 1; middle 6, 3
    ((7, 2), (5, 1), (6, 0), (5, 3)),  # 6 by 4, from 14, 4; 17, 6
    ((7, 1), (5, 0), (7, 3), (6, 5)),  # 5 by 3, from 30, 6; 32, 7
    ((7, 1), (5, 0), (7, 6), (6, 3)),  # 5 by 3, from 7, 14; 9, 15
    ((7, 3), (5, 4), (5, 0), (2, 1)),  # 7 by 7, from 14, 12; 17, 15
    ((7, 4), (5, 2), (4, 3), (4, 0)),  # 8 by 5, from 30, 11; 34, 13
]
ONE_WAYS = [(2, 1), (2, 1), (2, 0), (2, 0), (2, 1), (2, 1), (2, 0)]
ONE_ENDS = [(6, 0), (5, 2)]  # stairs in room 0; one comes in at room 3
ONE_BEASTS = [
    ((6, 3), (5, 2), (3, 1), (2, 1)),  # 9, 15, where one comes in: nothing
    ((6, 5), (8, 6), (5, 1), (2, 1)),  # 36, 12, kind 1
    ((6, 5), (8, 0), (5, 0), (2, 0)),  # 30, 11, kind 0
]
ONE_THINGS = [
    ((6, 2), (5, 4), (3, 0), (4, 1)),  # 34, 6, a drink
    ((6, 1), (6, 3), (4, 0), (4, 0)),  # 17, 4, gold
    ((6, 2), (5, 3), (3, 1), (4, 2)),  # 33, 7, a leaf
    ((6, 2), (5, 4), (3, 1), (4, 0)),  # 34, 7, gold
]
ONE_FLOOR = [
    "                                       ",
    "  .........                            ",
    "  .........                            ",
    "  .........                            ",
    "  .........   ......                   ",
    "  .........   ......                   ",
    "      ..............          .....    ",
    "      .       .....................    ",
    "      .          .            .....    ",
    "      .          .                .    ",
    "      .          .                .    ",
    "      .          .            ........ ",
    "      .       .......         ........ ",
    "      .       .......         ........ ",
    "      ......  .......         ........ ",
    "      ................................ ",
    "       .....  .......                  ",
    "              .......                  ",
    "              .......                  ",
    "                                       ",
]

# Seed 2^64 - 1: its second beast is drawn where its first is.
LAST_FLOOR = [
    "                                       ",
    "                                       ",
    "                                       ",
    "                 ....          .....   ",
    "                 ....          .....   ",
    " ...................................   ",
    " .........       ....          .....   ",
    " .........       ....          .....   ",
    "     .            .              .     ",
    "     .            .              .     ",
    "     .            .              .     ",
    "     .         .......           .     ",
    " .......       .......           .     ",
    " .....................           .     ",
    " .......          .          .......   ",
    "                  .          .......   ",
    "                  ..................   ",
    "                             .......   ",
    "                                       ",
    "                                       ",
]


def flat(*groups):
    pairs = []
    for group in groups:
        for row in group:
            pairs += [row] if isinstance(row[0], int) else list(row)
    return pairs


def floor_rows(level):
    return ["".join("." if (x, y) in level.floor else " " for x in range(39)) for y in range(20)]


def beast_list(level):
    return [(beast.place, beast.kind, beast.life) for beast in level.beasts]


def some_level(number, beasts, things, goal=0, further=2, ways=None):
    """The rooms of seed 1 with other draws behind them."""
    pairs = flat(ONE_ROOMS, ways or ONE_WAYS, [(6, goal), (5, further)], beasts, things)
    script = Script(*pairs)
    level = make_level(number, script)
    if script.pairs:
        raise AssertionError("not all was drawn")
    return level


class LevelTest(unittest.TestCase):
    def test_draws_of_seed_one(self):
        draws = Draws(1)
        for limit, drawn in flat(ONE_ROOMS, ONE_WAYS, ONE_ENDS, ONE_BEASTS, ONE_THINGS):
            self.assertEqual(draws.below(limit), drawn)

    def check_seed_one(self, level):
        self.assertEqual(floor_rows(level), ONE_FLOOR)
        self.assertEqual(level.stairs, (6, 3))
        self.assertEqual(level.entry, (9, 15))
        self.assertEqual(beast_list(level), [((36, 12), 1, 6), ((30, 11), 0, 3)])
        self.assertEqual(level.things, {(34, 6): 1, (17, 4): 0, (33, 7): 2, (34, 7): 0})

    def test_level_of_seed_one(self):
        self.check_seed_one(make_level(1, Draws(1)))

    def test_order_of_draws(self):
        script = Script(*flat(ONE_ROOMS, ONE_WAYS, ONE_ENDS, ONE_BEASTS, ONE_THINGS))
        self.check_seed_one(make_level(1, script))
        self.assertEqual(script.pairs, [])

    def test_level_of_the_greatest_seed(self):
        level = make_level(1, Draws(2 ** 64 - 1))
        self.assertEqual(floor_rows(level), LAST_FLOOR)
        self.assertEqual(level.stairs, (5, 6))
        self.assertEqual(level.entry, (18, 12))
        self.assertEqual(beast_list(level), [((3, 7), 0, 3), ((6, 13), 1, 6)])
        self.assertEqual(level.things, {(4, 12): 1, (2, 14): 2, (35, 5): 1, (35, 15): 0})

    def test_middles(self):
        level = make_level(1, Draws(1))
        middles = [room.middle() for room in level.rooms]
        self.assertEqual(middles, [(6, 3), (17, 6), (32, 7), (9, 15), (17, 15), (34, 13)])

    def test_greatest_and_least_rooms_stay_within_their_parts(self):
        most = [((7, 6), (5, 4), (2, 1), (2, 1))] * 6
        least = [((7, 0), (5, 0), (8, 7), (6, 5))] * 6
        tail = flat(ONE_WAYS, ONE_ENDS, [((6, 0), (10, 0), (7, 0), (2, 0))] * 3, [((6, 0), (10, 0), (7, 0), (4, 0))] * 4)
        level = make_level(1, Script(*flat(most), *tail))
        sizes = [(room.column, room.row, room.width, room.height) for room in level.rooms]
        self.assertEqual(sizes, [(x, y, 10, 7) for y in (2, 12) for x in (2, 15, 28)])
        tail = flat(ONE_WAYS, ONE_ENDS, [((6, 0), (4, 0), (3, 0), (2, 0))] * 3, [((6, 0), (4, 0), (3, 0), (4, 0))] * 4)
        level = make_level(1, Script(*flat(least), *tail))
        sizes = [(room.column, room.row, room.width, room.height) for room in level.rooms]
        self.assertEqual(sizes, [(x, y, 4, 3) for y in (6, 16) for x in (8, 21, 34)])

    def test_both_bends_of_each_way(self):
        row_first = some_level(1, ONE_BEASTS, ONE_THINGS, ways=[(2, 0)] * 7).floor
        column_first = some_level(1, ONE_BEASTS, ONE_THINGS, ways=[(2, 1)] * 7).floor
        # Between 0 (6, 3) and 1 (17, 6); 2 (32, 7) and 5 (34, 13); 0 and 3 (9, 15).
        for place in ((13, 3), (17, 3), (34, 9), (9, 10)):
            self.assertIn(place, row_first)
            self.assertNotIn(place, column_first)
        for place in ((11, 6), (13, 6), (32, 9), (6, 10)):
            self.assertNotIn(place, row_first)
            self.assertIn(place, column_first)

    def test_one_comes_in_at_each_other_room(self):
        middles = [(6, 3), (17, 6), (32, 7), (9, 15), (17, 15), (34, 13)]
        beasts = [((6, 0), (9, 0), (5, 0), (2, 0))] * 3
        for goal in range(6):
            for further in range(5):
                level = some_level(1, beasts, ONE_THINGS, goal, further)
                self.assertEqual(level.stairs, middles[goal])
                self.assertEqual(level.entry, middles[(goal + 1 + further) % 6])

    def test_beasts_by_level(self):
        for number, kinds in ((1, 2), (2, 3), (3, 4), (4, 4), (5, 4)):
            beasts = [((6, 0), (9, i), (5, 0), (kinds, i % kinds)) for i in range(number + 2)]
            level = some_level(number, beasts, ONE_THINGS)
            lives = (3, 6, 10, 16)
            told = [((2 + i, 1), i % kinds, lives[i % kinds]) for i in range(number + 2)]
            self.assertEqual(beast_list(level), told)

    def test_beast_may_be_on_the_stairs_and_on_a_thing(self):
        beasts = [((6, 0), (9, 4), (5, 2), (2, 0)), ((6, 2), (5, 4), (3, 0), (2, 0)), ((6, 0), (9, 0), (5, 0), (2, 0))]
        level = some_level(1, beasts, ONE_THINGS)
        self.assertEqual([beast.place for beast in level.beasts], [(6, 3), (34, 6), (2, 1)])
        self.assertEqual(level.things[(34, 6)], 1)

    def test_thing_upon_a_thing_is_nothing(self):
        things = [((6, 0), (9, 0), (5, 0), (4, kind)) for kind in (3, 0, 1, 2)]
        self.assertEqual(some_level(1, ONE_BEASTS, things).things, {(2, 1): 3})

    def test_thing_may_lie_on_stairs_and_where_one_comes_in(self):
        things = [((6, 0), (9, 4), (5, 2), (4, 2)), ((6, 3), (5, 2), (3, 1), (4, 3))] + ONE_THINGS[:2]
        level = some_level(1, ONE_BEASTS, things)
        self.assertEqual(level.things[level.stairs], 2)
        self.assertEqual(level.things[level.entry], 3)

    def test_crown_on_the_fifth_level(self):
        beasts = [((6, 0), (9, i), (5, 0), (4, 0)) for i in range(7)]
        # The first thing is drawn where the crown is: nothing.
        things = [((6, 0), (9, 4), (5, 2), (4, 2))] + ONE_THINGS[:3]
        level = some_level(5, beasts, things)
        self.assertIsNone(level.stairs)
        self.assertEqual(level.things, {(6, 3): CROWN, (34, 6): 1, (17, 4): 0, (33, 7): 2})

    def test_no_crown_before_the_fifth_level(self):
        for number in (1, 2, 3, 4):
            level = make_level(number, Draws(number))
            self.assertIsNotNone(level.stairs)
            self.assertNotIn(CROWN, level.things.values())


if __name__ == "__main__":
    unittest.main()
