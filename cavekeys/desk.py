"""The calls begin, key and screen, as numbers in a list."""

from cavekeys.draws import Draws
from cavekeys.game import Game
from cavekeys.picture import screen_text
from cavekeys.press import press_key

BEGIN = 0
KEY = 1

NO_SEED = -3


class Desk:
    def __init__(self):
        self.game = None

    def begin(self, seed):
        if seed == 0:
            return NO_SEED
        self.game = Game(Draws(seed))
        return 0

    def key(self, code):
        return press_key(self.game, code)

    def screen(self):
        text = screen_text(self.game)
        return [len(text)] + [ord(sign) for sign in text]


def answers(calls):
    desk = Desk()
    given = []
    at = 0
    while at < len(calls):
        if calls[at] == BEGIN:
            answer = [desk.begin(calls[at + 1])]
            at = at + 2
        elif calls[at] == KEY:
            answer = [desk.key(calls[at + 1])]
            at = at + 2
        else:
            answer = desk.screen()
            at = at + 1
        given.append(len(answer))
        given.extend(answer)
    return given
