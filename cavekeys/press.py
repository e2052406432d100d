"""What each key does. An act answers what it says, or None if it's not possible."""

from cavekeys.hunt import beasts_act
from cavekeys.level import BLADE, CROWN, DRINK, GOLD, LEAF, PARTS
from cavekeys.places import STEPS, moved

OVER = -5
NO_TURN = 0
TURN = 1
WON = 2
DEAD = 3

LETTERS = "hjklyubn.,qr>"
NO_LETTER = ""

# By the thing's kind.
TAKEN = ("gold", "a drink", "a leaf", "a blade", "the crown")

TURNS_LIMIT = 4294967296


def press_key(game, code):
    if game.is_over():
        return OVER
    letter = letter_of(code)
    said = act(game, letter)
    if said is None:
        game.said = "no"
        return NO_TURN
    game.said = said
    end_turn(game, letter)
    if game.won:
        return WON
    return DEAD if game.life == 0 else TURN


def letter_of(code):
    for letter in LETTERS:
        if ord(letter) == code:
            return letter
    return NO_LETTER


def end_turn(game, letter):
    game.turns = (game.turns + 1) % TURNS_LIMIT
    if letter != ">" and not game.won:
        beasts_act(game)
    if game.turns % 10 == 0 and not game.is_over():
        game.heal(1)
    game.look()


def act(game, letter):
    if letter in STEPS:
        return go(game, STEPS[letter])
    if letter == ".":
        return ""
    if letter == ",":
        return take(game)
    if letter == "q":
        return use_drink(game)
    if letter == "r":
        return use_leaf(game)
    if letter == ">":
        return descend(game)
    return None


def go(game, step):
    place = moved(game.place, step)
    beast = game.level.beast_at(place)
    if beast is not None:
        return strike(game, beast)
    if place not in game.level.floor:
        return None
    game.place = place
    return "something" if place in game.level.things else ""


def strike(game, beast):
    beast.life = beast.life - 1 - game.draws.below(4 + game.blades)
    if beast.life > 0:
        return "hit"
    game.level.beasts.remove(beast)
    return "killed"


def take(game):
    if game.place not in game.level.things:
        return None
    kind = game.level.things.pop(game.place)
    if kind == GOLD:
        game.gold = game.gold + 10 + game.draws.below(20)
    elif kind == DRINK:
        game.drinks = game.drinks + 1
    elif kind == LEAF:
        game.leaves = game.leaves + 1
    elif kind == BLADE:
        game.blades = game.blades + 1
    elif kind == CROWN:
        game.won = True
    return TAKEN[kind]


def use_drink(game):
    if game.drinks == 0:
        return None
    game.drinks = game.drinks - 1
    game.heal(8)
    return "better"


def use_leaf(game):
    if game.leaves == 0:
        return None
    game.leaves = game.leaves - 1
    place = game.level.rooms[game.draws.below(PARTS)].middle()
    if game.level.beast_at(place) is not None:
        return "nothing"
    game.place = place
    return "away"


def descend(game):
    if game.place != game.level.stairs:
        return None
    game.enter(game.level.number + 1)
    return "deeper"
