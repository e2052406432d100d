"""Places, each a pair of column and row, and the steps from one to another."""

COLUMNS = 39
ROWS = 20

# In the keys' order, in which a beast looks about itself too.
STEPS = {
    "h": (-1, 0),
    "j": (0, 1),
    "k": (0, -1),
    "l": (1, 0),
    "y": (-1, -1),
    "u": (1, -1),
    "b": (-1, 1),
    "n": (1, 1),
}


def moved(place, step):
    return (place[0] + step[0], place[1] + step[1])


def far(here, there):
    return max(abs(there[0] - here[0]), abs(there[1] - here[1]))
