"""What several test files need: calls as a list, answers taken apart, draws and games made by hand."""

from cavekeys.desk import answers
from cavekeys.draws import Draws
from cavekeys.game import Game
from cavekeys.level import Beast, Level
from cavekeys.picture import screen_text
from cavekeys.press import press_key

SCREEN = [2]


def begin(seed):
    return [0, seed]


def keys(letters):
    calls = []
    for letter in letters:
        calls += [1, ord(letter)]
    return calls


def split(numbers):
    """The answers, one list for each call; every number must belong to one."""
    parts = []
    at = 0
    while at < len(numbers):
        end = at + 1 + numbers[at]
        if end > len(numbers):
            raise AssertionError("an answer is cut short")
        parts.append(numbers[at + 1:end])
        at = end
    return parts


def play(*calls):
    whole = []
    for call in calls:
        whole += call
    return split(answers(whole))


def shown(answer):
    """A screen's answer as a text."""
    if answer[0] != len(answer) - 1:
        raise AssertionError("the count is not that of the bytes")
    return bytes(answer[1:]).decode("ascii")


class Script:
    """Draws told beforehand, each with the limit that must be asked for."""

    def __init__(self, *pairs):
        self.pairs = list(pairs)

    def below(self, limit):
        if not self.pairs:
            raise AssertionError("one draw too many, below " + str(limit))
        asked, drawn = self.pairs.pop(0)
        if asked != limit or drawn >= limit:
            raise AssertionError(f"drawn below {limit}, told {drawn} below {asked}")
        return drawn


def hand_game(picture, *pairs, number=1):
    """A game in a level that is drawn: @ where one stands, rwbd beasts, $!?/* things, > stairs, # or blank closed."""
    game = Game(Draws(1))
    level = Level(number)
    for row, line in enumerate(picture):
        for column, sign in enumerate(line):
            read_sign(game, level, (column, row), sign)
    game.level = level
    game.draws = Script(*pairs)
    game.known = {}
    game.look()
    return game


def read_sign(game, level, place, sign):
    if sign in "# ":
        return
    level.floor[place] = True
    if sign == "@":
        game.place = place
    elif sign == ">":
        level.stairs = place
    elif sign in "rwbd":
        level.beasts.append(Beast("rwbd".index(sign), place))
    elif sign in "$!?/*":
        level.things[place] = "$!?/*".index(sign)


def hit(game, letter):
    return press_key(game, ord(letter))


def picture_of(game, columns, rows):
    """The upper left corner of the screen."""
    return [line[:columns] for line in screen_text(game).split("\n")[:rows]]
