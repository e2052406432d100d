"""Promise 1: begin."""

import unittest

from helper import SCREEN, begin, keys, play, shown

from cavekeys.draws import Draws


class DrawsTest(unittest.TestCase):
    def test_first_draws_of_seed_one(self):
        # 1 becomes 1 xor 2^25; times the factor, by 2^32, that is 1206177355; and so on.
        draws = Draws(1)
        raw = [draws.below(2 ** 32) for time in range(5)]
        self.assertEqual(raw, [1206177355, 2882512552, 3117485455, 1303648416, 241277360])

    def test_state_stays_within_64_bits(self):
        draws = Draws(2 ** 64 - 1)
        raw = [draws.below(2 ** 32) for time in range(5)]
        self.assertEqual(raw, [4180462053, 2415166680, 879531507, 3310800028, 1814914367])
        self.assertLess(draws.state, 2 ** 64)

    def test_state_after_one_draw(self):
        draws = Draws(1)
        self.assertEqual(draws.below(7), 1206177355 % 7)
        self.assertEqual(draws.state, 2 ** 25 + 1)


class BeginTest(unittest.TestCase):
    def test_answers_zero(self):
        for seed in (1, 2, 2 ** 32, 2 ** 63, 2 ** 64 - 1):
            self.assertEqual(play(begin(seed)), [[0]])

    def test_what_one_has_at_first(self):
        lines = shown(play(begin(1), SCREEN)[1]).split("\n")
        self.assertEqual(lines[20], "level 1 life 20 blades 0 gold 0 drinks 0 leaves 0 turns 0")
        self.assertEqual(lines[21:], ["", ""])

    def test_seed_zero_is_refused_and_the_game_stays(self):
        play_one = begin(1) + keys("lll")
        first = play(play_one, SCREEN, keys("llll"), SCREEN)
        second = play(play_one, SCREEN, begin(0), SCREEN, keys("llll"), SCREEN)
        self.assertEqual(second[5], [-3])
        self.assertEqual(second[4], second[6])
        self.assertEqual(first[4:], second[6:])

    def test_seed_zero_leaves_what_was_said(self):
        screens = play(begin(1), keys("x"), SCREEN, begin(0), SCREEN)
        self.assertEqual(screens[2], screens[4])
        self.assertEqual(shown(screens[4]).split("\n")[21], "no")

    def test_seed_zero_leaves_an_ended_game_ended(self):
        parts = play(begin(114), keys("jnnnjjjjjjjj>jjyuuu"), begin(0), keys("."))
        self.assertEqual(parts[-3:], [[3], [-3], [-5]])

    def test_begin_again_is_a_new_game(self):
        for seed in (1, 2 ** 64 - 1):
            fresh = play(begin(seed), SCREEN, keys("jjllkk.,>"), SCREEN)
            again = play(begin(161), keys("lllllllllllllu>kk"), begin(seed), SCREEN, keys("jjllkk.,>"), SCREEN)
            self.assertEqual(again[-len(fresh):], fresh)

    def test_other_seed_other_level(self):
        self.assertNotEqual(play(begin(1), SCREEN), play(begin(2), SCREEN))

    def test_begin_behind_an_end(self):
        fresh = play(begin(5), SCREEN)
        dead = play(begin(114), keys("jnnnjjjjjjjj>jjyuuu"), begin(5), SCREEN)
        self.assertEqual(dead[-2:], fresh)


if __name__ == "__main__":
    unittest.main()
