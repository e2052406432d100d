"""Promise 3: screen."""

import unittest

from helper import SCREEN, begin, hand_game, hit, keys, picture_of, play, shown

from cavekeys.picture import screen_text


def rows_with(rows):
    """Twenty rows, those not told blank."""
    return [rows.get(row, "").ljust(39) for row in range(20)]


class BytesTest(unittest.TestCase):
    def test_just_after_begin(self):
        answer = play(begin(1), SCREEN)[1]
        told = rows_with({
            13: "     #.######",
            14: "     #......#",
            15: "     #...@........",
            16: "      #.....#",
            17: "      #######",
        })
        status = "level 1 life 20 blades 0 gold 0 drinks 0 leaves 0 turns 0"
        text = "\n".join(told + [status, "", ""])
        self.assertEqual(answer, [len(text)] + list(text.encode("ascii")))
        # 20 rows of 40, a row of 57 and its newline, and a newline.
        self.assertEqual(answer[0], 800 + 58 + 1)

    def test_later_on(self):
        # In the room to the right one sees up the way; then back, and that is only known.
        told = rows_with({
            7: "                 .",
            8: "                 .",
            9: "                 .#",
            10: "                 .#",
            11: "             ####.####",
            12: "             #.......#",
            13: "     #.#######.......#",
            14: "     #......##.......#",
            15: "     #...........@........",
            16: "      #.....##.......#",
            17: "      ########.......#",
            18: "             #.......#",
            19: "             #########",
        })
        status = "level 1 life 20 blades 0 gold 0 drinks 0 leaves 0 turns "
        answer = play(begin(1), keys("llllllll"), SCREEN)[-1]
        self.assertEqual(shown(answer), "\n".join(told + [status + "8", "", ""]))
        answer = play(begin(1), keys("llllllllhhhh"), SCREEN)[-1]
        told[15] = "     #.......@............".ljust(39)
        self.assertEqual(shown(answer), "\n".join(told + [status + "12", "", ""]))

    def test_deeper(self):
        # Seed 114, down the stairs: nothing of the first level is known.
        parts = play(begin(114), keys("jnnnjjjjjjjj"), SCREEN, keys(">"), SCREEN)
        before = shown(parts[13]).split("\n")
        after = shown(parts[15]).split("\n")
        self.assertEqual(before[20], "level 1 life 20 blades 0 gold 0 drinks 0 leaves 0 turns 12")
        self.assertEqual(after[20:], ["level 2 life 20 blades 0 gold 0 drinks 0 leaves 0 turns 13", "deeper", ""])
        column, row = self.stands(after)
        for y, line in enumerate(after[:20]):
            for x, sign in enumerate(line):
                if max(abs(x - column), abs(y - row)) > 8:
                    self.assertEqual(sign, " ")

    def stands(self, lines):
        for row, line in enumerate(lines):
            if "@" in line:
                return line.index("@"), row

    def test_form(self):
        for seed in range(1, 60):
            text = shown(play(begin(seed), keys("hjklyubnx,"), SCREEN)[-1])
            lines = text.split("\n")
            self.assertEqual(len(lines), 23)
            self.assertEqual([len(line) for line in lines[:20]], [39] * 20)
            self.assertEqual("".join(lines[:20]).count("@"), 1)
            self.assertEqual(lines[22], "")

    def test_screen_changes_nothing(self):
        once = play(begin(3), keys("jjll"), SCREEN, keys("kkhh."), SCREEN)
        often = play(begin(3), SCREEN, keys("jjll"), SCREEN, SCREEN, SCREEN, keys("kkhh."), SCREEN)
        self.assertEqual(often[6], often[7])
        self.assertEqual(often[7], often[8])
        self.assertEqual(often[-6:], once[-6:])


class SignTest(unittest.TestCase):
    def test_every_sign(self):
        picture = [
            "             ",
            " ........... ",
            " .rwbd@$!?/. ",
            " .....>..... ",
            "             ",
        ]
        game = hand_game(picture)
        # Four columns off, two rows up: the third place between is 1.5 rows up, so 2, which is closed.
        told = [
            "   #######   ",
            "#...........#",
            "#.rwbd@$!?/.#",
            "#.....>.....#",
            "   #######   ",
        ]
        self.assertEqual(picture_of(game, 13, 5), told)

    def test_crown(self):
        self.assertEqual(picture_of(hand_game(["@.*"], number=5), 4, 1), ["@.*#"])

    def test_one_stands_above_all(self):
        game = hand_game(["@..>"])
        game.place = (3, 0)
        game.level.things[(3, 0)] = 2
        game.look()
        self.assertEqual(picture_of(game, 5, 1), ["...@#"])

    def test_beast_above_thing_above_stairs(self):
        game = hand_game(["@..r"])
        game.level.stairs = (3, 0)
        game.level.things[(3, 0)] = 2
        self.assertEqual(picture_of(game, 5, 1), ["@..r#"])
        game.level.beasts = []
        self.assertEqual(picture_of(game, 5, 1), ["@..?#"])
        game.level.things = {}
        self.assertEqual(picture_of(game, 5, 1), ["@..>#"])

    def test_seen_to_eight_far(self):
        self.assertEqual(picture_of(hand_game(["@.......$......"]), 15, 1), ["@.......$      "])
        self.assertEqual(picture_of(hand_game(["@........r....."]), 15, 1), ["@........      "])

    def test_known_but_not_seen(self):
        game = hand_game(["@$.......", "#########", "r>......."])
        game.place = (0, 2)
        game.level.beasts[0].place = (8, 2)
        game.look()
        # From the lower row the upper one is hidden: its thing is not shown, its places are.
        self.assertEqual(picture_of(game, 9, 3), [".........", "##       ", "@>......r"])
        game.place = (0, 0)
        game.look()
        self.assertEqual(picture_of(game, 9, 3), ["@$.......", "##       ", ".>......."])

    def test_neither_seen_nor_known(self):
        game = hand_game(["@.#.r>$"])
        self.assertEqual(picture_of(game, 7, 1), ["@.#    "])

    def test_what_one_goes_by_becomes_known(self):
        game = hand_game(["@..............."])
        for time in range(3):
            self.assertEqual(hit(game, "l"), 1)
        self.assertEqual(picture_of(game, 16, 1), ["...@........    "])
        for time in range(3):
            hit(game, "h")
        self.assertEqual(picture_of(game, 16, 1), ["@...........    "])

    def test_after_death_too(self):
        game = hand_game([" r.@...." + " " * 10], (2, 1), (2, 1))
        game.life = 1
        game.known = {}
        self.assertEqual(hit(game, "h"), 3)
        self.assertEqual(picture_of(game, 12, 1), ["#r@.....#   "])

    def test_rows_below(self):
        game = hand_game(["@"], number=4)
        game.life, game.blades, game.gold, game.drinks, game.leaves, game.turns = 7, 11, 222, 3, 44, 5555
        game.said = "something"
        self.assertEqual(screen_text(game).split("\n")[20:], [
            "level 4 life 7 blades 11 gold 222 drinks 3 leaves 44 turns 5555", "something", "",
        ])


if __name__ == "__main__":
    unittest.main()
