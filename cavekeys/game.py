"""A game under way: what one has, where one stands, what one knows."""

from cavekeys.level import make_level
from cavekeys.sight import seen_from

MOST_LIFE = 20


class Game:
    def __init__(self, draws):
        self.draws = draws
        self.life = MOST_LIFE
        self.blades = 0
        self.gold = 0
        self.drinks = 0
        self.leaves = 0
        self.turns = 0
        self.won = False
        self.said = ""
        self.enter(1)
        # No turn has passed yet, but where one comes in one looks about all the same.
        self.look()

    def enter(self, number):
        self.level = make_level(number, self.draws)
        self.place = self.level.entry
        self.seen = {}
        self.known = {}

    def look(self):
        self.seen = seen_from(self.level.floor, self.place)
        self.known.update(self.seen)

    def heal(self, amount):
        self.life = min(MOST_LIFE, self.life + amount)

    def is_over(self):
        return self.won or self.life == 0
