"""Promise 2: what follows a key that takes a turn: the beasts, the tenth turn, the end."""

import unittest

from helper import SCREEN, begin, hand_game, hit, keys, play, shown

from cavekeys.places import far

WON_SEED = 161
WON_KEYS = "lllllllllllllu>kkkkkuuuukkuu>kbkkkuuuukku>jjjjjjjjjjjbbbnn>kkkkkkkkkuukk,"
DEAD_SEED = 114
DEAD_KEYS = "jnnnjjjjjjjj>jjyuuu"

ALL_KEYS = "hjklyubn.,qr>x"


def places(game):
    return [beast.place for beast in game.level.beasts]


class BiteTest(unittest.TestCase):
    def bitten(self, picture, *pairs, life=20):
        game = hand_game(picture, *pairs)
        game.life = life
        answer = hit(game, ".")
        self.assertEqual(game.draws.pairs, [])
        return answer, game.life, game.said

    def test_missed(self):
        self.assertEqual(self.bitten([" r@ "], (2, 0)), (1, 20, "missed"))

    def test_bites_of_each_kind(self):
        for sign, bite in (("r", 2), ("w", 4), ("b", 6), ("d", 9)):
            for drawn in (0, bite - 1):
                told = (1, 19 - drawn, "bitten")
                self.assertEqual(self.bitten([" " + sign + "@ "], (2, 1), (bite, drawn)), told)

    def test_from_each_place_about(self):
        for column, row in ((1, 1), (2, 1), (3, 1), (1, 2), (3, 2), (1, 3), (2, 3), (3, 3)):
            rows = [list("     "), list(" ... "), list(" .@. "), list(" ... ")]
            rows[row][column] = "r"
            picture = ["".join(line) for line in rows]
            self.assertEqual(self.bitten(picture, (2, 1), (2, 0)), (1, 19, "bitten"))

    def test_what_was_said_last_stands(self):
        self.assertEqual(self.bitten([" r@r "], (2, 1), (2, 0), (2, 0)), (1, 19, "missed"))
        self.assertEqual(self.bitten([" r@r "], (2, 0), (2, 1), (2, 0)), (1, 19, "bitten"))

    def test_dead_with_none_left(self):
        self.assertEqual(self.bitten([" d@ "], (2, 1), (9, 4), life=5), (3, 0, "dead"))

    def test_not_dead_with_one_left(self):
        self.assertEqual(self.bitten([" d@ "], (2, 1), (9, 3), life=5), (1, 1, "bitten"))

    def test_life_never_below_none(self):
        self.assertEqual(self.bitten([" d@ "], (2, 1), (9, 8), life=1), (3, 0, "dead"))

    def test_behind_death_no_beast_acts(self):
        game = hand_game([" r@r..w "], (2, 1), (2, 1))
        game.life = 2
        self.assertEqual(hit(game, "."), 3)
        self.assertEqual(places(game), [(1, 0), (3, 0), (6, 0)])
        self.assertEqual(game.said, "dead")

    def test_in_the_order_they_were_made(self):
        game = hand_game([" w@d "], (2, 1), (4, 0), (2, 1), (9, 0))
        hit(game, ".")
        self.assertEqual(game.draws.pairs, [])
        game = hand_game([" w@d "], (2, 1), (9, 0), (2, 1), (4, 0))
        game.level.beasts.reverse()
        hit(game, ".")
        self.assertEqual(game.draws.pairs, [])

    def test_order_stays_when_one_is_killed(self):
        game = hand_game([" wr. ", " @d. "], (4, 2), (2, 1), (4, 0), (2, 1), (9, 0))
        self.assertEqual(hit(game, "u"), 1)
        self.assertEqual([beast.kind for beast in game.level.beasts], [1, 3])
        self.assertEqual((game.life, game.draws.pairs), (18, []))

    def test_bitten_where_one_has_gone(self):
        game = hand_game([" r.@ "], (2, 1), (2, 1))
        self.assertEqual(hit(game, "h"), 1)
        self.assertEqual((game.place, game.life, game.said), ((2, 0), 18, "bitten"))

    def test_one_goes_away_and_is_followed(self):
        game = hand_game([" r@.. "])
        self.assertEqual(hit(game, "l"), 1)
        self.assertEqual((places(game), game.said), ([(2, 0)], ""))

    def test_a_beast_that_has_stepped_does_not_bite(self):
        game = hand_game([" r..@ "])
        hit(game, ".")
        self.assertEqual((places(game), game.life), ([(2, 0)], 20))


class StepTest(unittest.TestCase):
    def step(self, picture, letter="."):
        game = hand_game(picture)
        self.assertEqual(hit(game, letter), 1)
        return places(game)

    def test_straight(self):
        self.assertEqual(self.step([" r...@ "]), [(2, 0)])

    def test_first_of_those_least_far(self):
        # All three at its left are equally far: h comes before y and b.
        self.assertEqual(self.step([" ...... ", " @....r ", " ...... "]), [(5, 1)])
        # l before u and n.
        self.assertEqual(self.step([" ...... ", " r....@ ", " ...... "]), [(2, 1)])
        # j before b and n.
        self.assertEqual(self.step([" .r. ", " ... ", " ... ", " .@. "]), [(2, 1)])
        # k before y and u.
        self.assertEqual(self.step([" .@. ", " ... ", " ... ", " .r. "]), [(2, 2)])

    def test_not_into_what_is_closed(self):
        # Left and up left are equally far; left comes first, if it's open.
        rows = ["      ", " @    ", "  .   ", "   .. "]
        self.assertEqual(self.step(rows + ["    .r"]), [(4, 4)])
        self.assertEqual(self.step(rows + ["     r"]), [(4, 3)])

    def test_behind_another_beast(self):
        # The left one has gone from there when the right one's turn comes.
        self.assertEqual(self.step([" ...... ", " @..rr. ", " ...... "]), [(3, 1), (4, 1)])

    def test_around_another_beast(self):
        # The further one is first, and the place straight before it is taken: y before b, u before n, and so on.
        for picture, place in (
            ([" ...... ", " @..rr. ", " ...... "], (4, 0)),
            ([" ...... ", " .rr..@ ", " ...... "], (3, 0)),
            ([" ... ", " .r. ", " .r. ", " ... ", " ... ", " .@. "], (1, 2)),
            ([" .@. ", " ... ", " ... ", " .r. ", " .r. ", " ... "], (1, 3)),
        ):
            game = hand_game(picture)
            further = max(game.level.beasts, key=lambda beast: far(beast.place, game.place))
            game.level.beasts = [further] + [beast for beast in game.level.beasts if beast is not further]
            hit(game, ".")
            self.assertEqual(further.place, place)

    def test_stays_if_no_place_is_nearer(self):
        # The one before it takes up the only nearer place; above and below it's as far.
        for picture in (["   . ", " @rr ", "   . "], [" @rr. "], [" @rr "]):
            game = hand_game(picture, (2, 0))
            before = places(game)
            hit(game, ".")
            self.assertEqual(places(game), before)
            self.assertEqual(game.draws.pairs, [])

    def test_not_if_not_seen(self):
        self.assertEqual(self.step([" r.#.@ "]), [(1, 0)])
        self.assertEqual(self.step([" r........@ "]), [(1, 0)])

    def test_at_eight_it_steps(self):
        self.assertEqual(self.step([" r.......@ "]), [(2, 0)])

    def test_seen_from_where_one_has_gone(self):
        self.assertEqual(self.step([" r........@ "], "h"), [(2, 0)])
        self.assertEqual(self.step([" r.......@. "], "l"), [(1, 0)])

    def test_upon_things_and_stairs(self):
        self.assertEqual(self.step([" r$..@ "]), [(2, 0)])
        self.assertEqual(self.step([" r>..@ "]), [(2, 0)])

    def test_steps_of_several_in_turn(self):
        self.assertEqual(self.step([" @..rr.r "]), [(3, 0), (4, 0), (6, 0)])


class TenthTurnTest(unittest.TestCase):
    def test_one_more_on_each_tenth(self):
        game = hand_game([" @ "])
        game.life = 5
        lives = []
        for time in range(31):
            hit(game, ".")
            lives.append(game.life)
        self.assertEqual(lives, [5] * 9 + [6] * 10 + [7] * 10 + [8] * 2)

    def test_twenty_at_most(self):
        game = hand_game([" @ "])
        game.turns = 9
        hit(game, ".")
        self.assertEqual(game.life, 20)

    def test_not_without_a_turn(self):
        game = hand_game([" @ "])
        game.life, game.turns = 5, 10
        self.assertEqual(hit(game, "x"), 0)
        self.assertEqual((game.life, game.turns), (5, 10))

    def test_behind_a_bite(self):
        game = hand_game([" r@ "], (2, 1), (2, 0))
        game.life, game.turns = 20, 9
        hit(game, ".")
        self.assertEqual((game.life, game.said), (20, "bitten"))

    def test_not_when_dead(self):
        game = hand_game([" r@ "], (2, 1), (2, 0))
        game.life, game.turns = 1, 9
        self.assertEqual(hit(game, "."), 3)
        self.assertEqual((game.life, game.turns), (0, 10))

    def test_not_when_won(self):
        game = hand_game([" @ "])
        game.level.things[game.place] = 4
        game.life, game.turns = 5, 9
        self.assertEqual(hit(game, ","), 2)
        self.assertEqual((game.life, game.turns), (5, 10))


class EndTest(unittest.TestCase):
    def check_end(self, seed, letters, end, lines):
        parts = play(begin(seed), keys(letters), SCREEN, keys(ALL_KEYS), [1, -1], [1, 2 ** 31 - 1], SCREEN)
        count = len(letters)
        self.assertEqual(parts[1:count], [[1]] * (count - 1))
        self.assertEqual(parts[count], [end])
        self.assertEqual(shown(parts[count + 1]).split("\n")[20:], lines + [""])
        self.assertEqual(parts[count + 2:-1], [[-5]] * (len(ALL_KEYS) + 2))
        self.assertEqual(parts[-1], parts[count + 1])

    def test_won(self):
        status = "level 5 life 10 blades 0 gold 0 drinks 0 leaves 0 turns 73"
        self.check_end(WON_SEED, WON_KEYS, 2, [status, "the crown"])

    def test_dead(self):
        status = "level 2 life 0 blades 0 gold 0 drinks 0 leaves 0 turns 19"
        self.check_end(DEAD_SEED, DEAD_KEYS, 3, [status, "dead"])

    def test_begin_starts_anew(self):
        fresh = play(begin(1), SCREEN, keys("l"), SCREEN)
        for seed, letters in ((WON_SEED, WON_KEYS), (DEAD_SEED, DEAD_KEYS)):
            parts = play(begin(seed), keys(letters), keys("."), begin(1), SCREEN, keys("l"), SCREEN)
            self.assertEqual(parts[-5], [-5])
            self.assertEqual(parts[-4:], fresh)


if __name__ == "__main__":
    unittest.main()
