"""A level: its rooms and ways, its stairs or crown, its beasts and things."""

PARTS = 6
PARTS_ABREAST = 3
PART_COLUMNS = 13
PART_ROWS = 10

WAYS = ((0, 1), (1, 2), (3, 4), (4, 5), (0, 3), (1, 4), (2, 5))

LAST_LEVEL = 5

BEAST_KINDS = 4
BEAST_LIVES = (3, 6, 10, 16)
BEAST_BITES = (2, 4, 6, 9)

THINGS = 4
GOLD = 0
DRINK = 1
LEAF = 2
BLADE = 3
CROWN = 4


class Room:
    def __init__(self, column, row, width, height):
        self.column = column
        self.row = row
        self.width = width
        self.height = height

    def middle(self):
        return (self.column + self.width // 2, self.row + self.height // 2)


class Beast:
    def __init__(self, kind, place):
        self.kind = kind
        self.place = place
        self.life = BEAST_LIVES[kind]


class Level:
    def __init__(self, number):
        self.number = number
        self.rooms = []
        self.floor = {}
        self.entry = None
        self.stairs = None
        self.beasts = []
        self.things = {}

    def beast_at(self, place):
        for beast in self.beasts:
            if beast.place == place:
                return beast
        return None


def make_level(number, draws):
    level = Level(number)
    make_rooms(level, draws)
    make_ways(level, draws)
    set_ends(level, draws)
    set_beasts(level, draws)
    set_things(level, draws)
    return level


def make_rooms(level, draws):
    for part in range(PARTS):
        room = drawn_room(part, draws)
        level.rooms.append(room)
        last = (room.column + room.width - 1, room.row + room.height - 1)
        dig(level.floor, (room.column, room.row), last)


def drawn_room(part, draws):
    width = 4 + draws.below(7)
    height = 3 + draws.below(5)
    column = PART_COLUMNS * (part % PARTS_ABREAST) + 1 + draws.below(12 - width)
    row = PART_ROWS * (part // PARTS_ABREAST) + 1 + draws.below(9 - height)
    return Room(column, row, width, height)


def dig(floor, start, end):
    for column in range(min(start[0], end[0]), max(start[0], end[0]) + 1):
        for row in range(min(start[1], end[1]), max(start[1], end[1]) + 1):
            floor[(column, row)] = True


def make_ways(level, draws):
    for first, second in WAYS:
        start = level.rooms[first].middle()
        end = level.rooms[second].middle()
        corner = (end[0], start[1]) if draws.below(2) == 0 else (start[0], end[1])
        dig(level.floor, start, corner)
        dig(level.floor, corner, end)


def set_ends(level, draws):
    goal = draws.below(PARTS)
    further = draws.below(PARTS - 1)
    place = level.rooms[goal].middle()
    # The crown is a thing like others, so what is drawn later can't lie there; stairs are none.
    if level.number == LAST_LEVEL:
        level.things[place] = CROWN
    else:
        level.stairs = place
    level.entry = level.rooms[(goal + 1 + further) % PARTS].middle()


def drawn_place(level, draws):
    room = level.rooms[draws.below(PARTS)]
    column = room.column + draws.below(room.width)
    row = room.row + draws.below(room.height)
    return (column, row)


def set_beasts(level, draws):
    for turn in range(level.number + 2):
        place = drawn_place(level, draws)
        kind = draws.below(min(level.number + 1, BEAST_KINDS))
        if place != level.entry and level.beast_at(place) is None:
            level.beasts.append(Beast(kind, place))


def set_things(level, draws):
    for turn in range(THINGS):
        place = drawn_place(level, draws)
        kind = draws.below(THINGS)
        if place not in level.things:
            level.things[place] = kind
