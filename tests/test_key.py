"""Promise 2: each key, what it says, whether it takes a turn, and how it ends."""

import unittest

from helper import SCREEN, begin, hand_game, hit, keys, play, shown

from cavekeys.draws import Draws
from cavekeys.game import Game
from cavekeys.level import Room, make_level
from cavekeys.press import press_key, strike

AROUND = {"h": (1, 2), "j": (2, 3), "k": (2, 1), "l": (3, 2), "y": (1, 1), "u": (3, 1), "b": (1, 3), "n": (3, 3)}

WIDE = ["     ", " ... ", " .@. ", " ... ", "     "]
NARROW = ["     ", "     ", "  @  ", "     ", "     "]


def held(game):
    return (game.place, game.life, game.blades, game.gold, game.drinks, game.leaves, game.turns, game.won,
            game.level.number, dict(game.level.things), [(b.place, b.life) for b in game.level.beasts])


def with_sign(place, sign):
    rows = [list(row) for row in WIDE]
    rows[place[1]][place[0]] = sign
    return ["".join(row) for row in rows]


class KeyCase(unittest.TestCase):
    def check_no(self, game, code):
        before = held(game)
        self.assertEqual(press_key(game, code), 0)
        self.assertEqual(game.said, "no")
        self.assertEqual(held(game), before)

    def check_turn(self, game, letter, said, answer=1):
        turns = game.turns
        self.assertEqual(hit(game, letter), answer)
        self.assertEqual(game.said, said)
        self.assertEqual(game.turns, turns + 1)
        self.assertEqual(game.draws.pairs, [])


class NoKeyTest(KeyCase):
    def test_numbers_that_are_no_key(self):
        told = [ord(letter) for letter in "hjklyubn.,qr>"]
        ends = [-2 ** 31, -2 ** 31 + 1, 2 ** 31 - 2, 2 ** 31 - 1, 1000, 2 ** 16 + 46]
        for code in list(range(-300, 600)) + ends:
            if code not in told:
                self.check_no(hand_game(WIDE), code)

    def test_no_is_said_over_what_was_said(self):
        game = hand_game(with_sign((1, 2), "$"))
        self.check_turn(game, "h", "something")
        self.check_no(game, 0)

    def test_no_beast_acts(self):
        self.check_no(hand_game(with_sign((1, 2), "r")), ord("x"))

    def test_through_the_list(self):
        for code in (-2 ** 31, -104, -1, 0, 255, 256, 104 + 256, 72, 2 ** 31 - 1):
            parts = play(begin(1), [1, code], SCREEN)
            self.assertEqual(parts[1], [0])
            lines = shown(parts[2]).split("\n")
            self.assertEqual(lines[20:], ["level 1 life 20 blades 0 gold 0 drinks 0 leaves 0 turns 0", "no", ""])


class StepTest(KeyCase):
    def test_goes_each_way(self):
        for letter, place in AROUND.items():
            game = hand_game(WIDE)
            self.check_turn(game, letter, "")
            self.assertEqual(game.place, place)

    def test_not_into_what_is_closed(self):
        for letter in AROUND:
            self.check_no(hand_game(NARROW), ord(letter))

    def test_diagonally_between_closed_places(self):
        game = hand_game(["    ", " @  ", "  . ", "    "])
        self.check_turn(game, "n", "")
        self.assertEqual(game.place, (2, 2))

    def test_upon_a_thing(self):
        for sign in "$!?/*":
            for letter, place in AROUND.items():
                game = hand_game(with_sign(place, sign))
                self.check_turn(game, letter, "something")
                self.assertEqual(game.place, place)
                self.assertIn(place, game.level.things)

    def test_stairs_are_no_thing(self):
        self.check_turn(hand_game(with_sign((1, 2), ">")), "h", "")

    def test_empty_is_said_over_no(self):
        game = hand_game(WIDE)
        self.check_no(game, 0)
        self.check_turn(game, "h", "")


class StrikeTest(KeyCase):
    def test_each_way(self):
        for letter, place in AROUND.items():
            # A beast that is left strikes back: here it misses, and that is said last.
            game = hand_game(with_sign(place, "w"), (4, 2), (2, 0))
            self.check_turn(game, letter, "missed")
            self.assertEqual(game.level.beasts[0].life, 3)
            self.assertEqual(game.place, (2, 2))

    def test_killed_with_none_left(self):
        game = hand_game(with_sign((3, 3), "r"), (4, 2))
        self.check_turn(game, "n", "killed")
        self.assertEqual(game.level.beasts, [])
        self.assertEqual(game.place, (2, 2))

    def test_killed_with_more_than_it_bears(self):
        game = hand_game(with_sign((3, 3), "r"), (4, 3))
        self.check_turn(game, "n", "killed")

    def test_not_killed_with_one_left(self):
        game = hand_game(with_sign((3, 3), "r"), (4, 1), (2, 0))
        self.check_turn(game, "n", "missed")
        self.assertEqual(game.level.beasts[0].life, 1)

    def test_what_each_kind_bears(self):
        for sign, life in (("r", 3), ("w", 6), ("b", 10), ("d", 16)):
            game = hand_game(with_sign((3, 2), sign), *[(4, 0), (2, 0)] * (life - 1), (4, 0))
            for time in range(life - 1):
                hit(game, "l")
                self.assertEqual(len(game.level.beasts), 1)
            self.check_turn(game, "l", "killed")

    def test_blades(self):
        game = hand_game(with_sign((3, 2), "w"), (9, 5))
        game.blades = 5
        self.check_turn(game, "l", "killed")

    def test_hit_is_said(self):
        # The beast that is hit stands 1 far, so on the screen what it does is said over it.
        game = hand_game(with_sign((3, 2), "r"), (4, 0))
        self.assertEqual(strike(game, game.level.beasts[0]), "hit")

    def test_only_the_one_there_is_struck(self):
        game = hand_game(["     ", " r.r ", " .@. ", "     "], (4, 2), (2, 0))
        self.check_turn(game, "u", "missed")
        self.assertEqual([beast.place for beast in game.level.beasts], [(1, 1)])
        self.assertEqual(game.level.beasts[0].life, 3)

    def test_where_the_dead_one_was_one_may_go(self):
        game = hand_game(with_sign((3, 2), "r"), (4, 2))
        self.check_turn(game, "l", "killed")
        self.check_turn(game, "l", "")
        self.assertEqual(game.place, (3, 2))

    def test_thing_below_a_beast_stays(self):
        game = hand_game(with_sign((3, 2), "r"), (4, 2))
        game.level.things[(3, 2)] = 0
        self.check_turn(game, "l", "killed")
        self.check_turn(game, "l", "something")


class WaitTest(KeyCase):
    def test_point(self):
        game = hand_game(WIDE)
        self.check_no(game, 0)
        self.check_turn(game, ".", "")
        self.assertEqual(game.place, (2, 2))

    def test_turns_are_counted_modulo(self):
        game = hand_game(WIDE)
        game.turns = 2 ** 32 - 1
        self.assertEqual(hit(game, "."), 1)
        self.assertEqual(game.turns, 0)


class TakeTest(KeyCase):
    def taking(self, kind, *pairs):
        game = hand_game(WIDE, *pairs)
        game.level.things[(2, 2)] = kind
        return game

    def test_nothing_there(self):
        self.check_no(hand_game(with_sign((1, 2), "$")), ord(","))

    def test_stairs_are_not_taken(self):
        game = hand_game(WIDE)
        game.level.stairs = (2, 2)
        self.check_no(game, ord(","))

    def test_gold(self):
        for drawn in (0, 7, 19):
            game = self.taking(0, (20, drawn))
            game.gold = 100
            self.check_turn(game, ",", "gold")
            self.assertEqual(game.gold, 110 + drawn)
            self.check_no(game, ord(","))

    def test_others(self):
        for kind, said, counts in ((1, "a drink", (0, 1, 0)), (2, "a leaf", (0, 0, 1)), (3, "a blade", (1, 0, 0))):
            game = self.taking(kind)
            self.check_turn(game, ",", said)
            self.assertEqual((game.blades, game.drinks, game.leaves), counts)
            self.assertEqual((game.gold, game.life), (0, 20))
            self.check_no(game, ord(","))

    def test_other_things_stay(self):
        game = self.taking(1)
        game.level.things[(1, 1)] = 1
        self.check_turn(game, ",", "a drink")
        self.assertEqual(game.level.things, {(1, 1): 1})

    def test_crown(self):
        game = self.taking(4)
        self.check_turn(game, ",", "the crown", 2)
        self.assertTrue(game.won)

    def test_beasts_do_not_act_when_won(self):
        game = hand_game(with_sign((1, 2), "r"))
        game.level.things[(2, 2)] = 4
        self.check_turn(game, ",", "the crown", 2)

    def test_beasts_act_behind_other_things(self):
        game = hand_game(with_sign((1, 2), "r"), (2, 0))
        game.level.things[(2, 2)] = 3
        self.check_turn(game, ",", "missed")
        self.assertEqual(game.blades, 1)


class DrinkTest(KeyCase):
    def test_without_one(self):
        game = hand_game(WIDE)
        game.life = 3
        self.check_no(game, ord("q"))

    def test_eight_more_and_twenty_at_most(self):
        for life, then in ((1, 9), (11, 19), (12, 20), (13, 20), (20, 20)):
            game = hand_game(WIDE)
            game.life = life
            game.drinks = 2
            self.check_turn(game, "q", "better")
            self.assertEqual((game.life, game.drinks), (then, 1))

    def test_used_up(self):
        game = hand_game(WIDE)
        game.drinks = 1
        self.check_turn(game, "q", "better")
        self.check_no(game, ord("q"))


class LeafTest(KeyCase):
    def with_rooms(self, picture, *pairs):
        game = hand_game(picture, *pairs)
        game.level.rooms = [Room(1, 1, 3, 1), Room(1, 3, 2, 1)] + [Room(1, 1, 1, 1)] * 4
        game.leaves = 2
        return game

    def test_without_one(self):
        self.check_no(hand_game(WIDE), ord("r"))

    def test_away(self):
        for drawn, place in ((0, (2, 1)), (1, (2, 3)), (5, (1, 1))):
            game = self.with_rooms(WIDE, (6, drawn))
            self.check_turn(game, "r", "away")
            self.assertEqual((game.place, game.leaves), (place, 1))

    def test_away_to_where_one_stands(self):
        game = self.with_rooms(["     ", " .@. "], (6, 0))
        self.check_turn(game, "r", "away")
        self.assertEqual(game.place, (2, 1))

    def test_away_upon_a_thing(self):
        game = self.with_rooms(with_sign((1, 1), "$"), (6, 5))
        self.check_turn(game, "r", "away")

    def test_nothing_if_a_beast_is_there(self):
        # The beast is two far behind the wall, so that it says nothing behind it.
        game = self.with_rooms(["      ", " r#.@ "], (6, 5))
        self.check_turn(game, "r", "nothing")
        self.assertEqual((game.place, game.leaves), ((4, 1), 1))

    def test_used_up(self):
        game = self.with_rooms(WIDE, (6, 0))
        game.leaves = 1
        self.check_turn(game, "r", "away")
        self.check_no(game, ord("r"))

    def test_what_is_seen_there_is_known(self):
        game = self.with_rooms([" " * 30, " .." + " " * 20 + ".@. "], (6, 2))
        self.assertNotIn((2, 1), game.known)
        hit(game, "r")
        self.assertIn((2, 1), game.known)
        self.assertIn((24, 1), game.known)


class StairsTest(KeyCase):
    def on_stairs(self, number=1):
        game = hand_game(WIDE, number=number)
        game.level.stairs = game.place
        game.draws = Draws(1)
        return game

    def test_not_on_the_stairs(self):
        self.check_no(hand_game(with_sign((1, 2), ">")), ord(">"))

    def test_no_stairs_on_the_fifth_level(self):
        self.check_no(hand_game(WIDE, number=5), ord(">"))

    def test_deeper(self):
        for number in (1, 2, 3, 4):
            game = self.on_stairs(number)
            old = game.known
            self.assertEqual(hit(game, ">"), 1)
            self.assertEqual((game.said, game.turns, game.level.number), ("deeper", 1, number + 1))
            # The rooms are drawn alike on every level, so they are those of seed 1.
            self.assertEqual(game.place, (9, 15))
            self.assertEqual(game.known, game.seen)
            self.assertNotIn((2, 2), game.known)
            self.assertIn((2, 2), old)

    def test_what_one_has_stays(self):
        game = self.on_stairs()
        game.life, game.blades, game.gold, game.drinks, game.leaves = 5, 1, 2, 3, 4
        hit(game, ">")
        self.assertEqual((game.life, game.blades, game.gold, game.drinks, game.leaves), (5, 1, 2, 3, 4))

    def test_draws_go_on(self):
        game = Game(Draws(9))
        twin = Draws(9)
        make_level(1, twin)
        second = make_level(2, twin)
        game.place = game.level.stairs
        hit(game, ">")
        self.assertEqual(game.level.floor, second.floor)
        self.assertEqual(game.level.things, second.things)
        self.assertEqual(game.place, second.entry)
        # Nothing is drawn behind the level.
        self.assertEqual(game.draws.state, twin.state)

    def test_no_beast_acts(self):
        # Were a beast of the old level to act, or one of the new, it would bite or step.
        for seed in range(1, 60):
            game = hand_game(with_sign((1, 1), "d"))
            game.level.stairs = game.place
            game.draws = Draws(seed)
            hit(game, ">")
            level = make_level(2, Draws(seed))
            self.assertEqual([b.place for b in game.level.beasts], [b.place for b in level.beasts])
            self.assertEqual((game.life, game.said), (20, "deeper"))

    def test_tenth_turn_counts_on_the_stairs_too(self):
        game = self.on_stairs()
        game.life, game.turns = 9, 9
        hit(game, ">")
        self.assertEqual((game.life, game.turns), (10, 10))


if __name__ == "__main__":
    unittest.main()
