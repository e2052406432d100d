"""The screen as a text."""

from cavekeys.places import COLUMNS, ROWS

# By the beast's and the thing's kind.
BEAST_SIGNS = "rwbd"
THING_SIGNS = "$!?/*"


def screen_text(game):
    rows = [row_text(game, row) for row in range(ROWS)]
    rows.append(status_text(game))
    rows.append(game.said)
    return "".join([row + "\n" for row in rows])


def row_text(game, row):
    return "".join([sign_at(game, (column, row)) for column in range(COLUMNS)])


def sign_at(game, place):
    if place == game.place:
        return "@"
    if place in game.seen:
        beast = game.level.beast_at(place)
        if beast is not None:
            return BEAST_SIGNS[beast.kind]
        if place in game.level.things:
            return THING_SIGNS[game.level.things[place]]
    if place not in game.known:
        return " "
    if place == game.level.stairs:
        return ">"
    return "." if place in game.level.floor else "#"


def status_text(game):
    parts = (
        ("level", game.level.number),
        ("life", game.life),
        ("blades", game.blades),
        ("gold", game.gold),
        ("drinks", game.drinks),
        ("leaves", game.leaves),
        ("turns", game.turns),
    )
    return " ".join([f"{name} {number}" for name, number in parts])
