"""What is seen from a place."""

from cavekeys.places import COLUMNS, ROWS, far

SIGHT = 8


def part_way(difference, step, steps):
    # The size is rounded, not the signed number, so that halves go away from the viewer on either side.
    size = (2 * step * abs(difference) + steps) // (2 * steps)
    return size if difference > 0 else -size


def sees(floor, here, there):
    steps = far(here, there)
    if steps > SIGHT:
        return False
    for step in range(1, steps):
        column = here[0] + part_way(there[0] - here[0], step, steps)
        row = here[1] + part_way(there[1] - here[1], step, steps)
        if (column, row) not in floor:
            return False
    return True


def seen_from(floor, here):
    seen = {}
    for row in range(max(0, here[1] - SIGHT), min(ROWS, here[1] + SIGHT + 1)):
        for column in range(max(0, here[0] - SIGHT), min(COLUMNS, here[0] + SIGHT + 1)):
            if sees(floor, here, (column, row)):
                seen[(column, row)] = True
    return seen
