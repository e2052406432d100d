"""The beasts' part of a turn."""

from cavekeys.level import BEAST_BITES
from cavekeys.places import STEPS, far, moved
from cavekeys.sight import sees


def beasts_act(game):
    for beast in game.level.beasts:
        if game.life == 0:
            return
        if far(beast.place, game.place) == 1:
            game.said = bite(game, beast)
        elif sees(game.level.floor, game.place, beast.place):
            beast.place = nearer_place(game, beast)


def bite(game, beast):
    if game.draws.below(2) == 0:
        return "missed"
    harm = 1 + game.draws.below(BEAST_BITES[beast.kind])
    game.life = max(0, game.life - harm)
    return "dead" if game.life == 0 else "bitten"


def nearer_place(game, beast):
    # A beast that steps is two far at least, so one's own place is never among the eight about it.
    best = beast.place
    for step in STEPS.values():
        place = moved(beast.place, step)
        if is_free(game.level, place) and far(place, game.place) < far(best, game.place):
            best = place
    return best


def is_free(level, place):
    return place in level.floor and level.beast_at(place) is None
