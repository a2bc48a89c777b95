"""Lines of a build moved, turned and made plain; and by how many turns two builds are the same."""

from brickrooms.catalogues import turned_sizes, turns_until_alike
from brickrooms.rooms import MOST_TURNS, ROOM_WIDTH


def moved_lines(lines, dx, dy, dz):
    return [(put[0], put[1], put[2] + dx, put[3] + dy, put[4] + dz, put[5]) for put in lines]


def moved_home(lines):
    if len(lines) == 0:
        return []
    # Each side of a right part's box has a cell: the least of the lines' places are the least of the cells, too.
    x = min([put[2] for put in lines])
    y = min([put[3] for put in lines])
    z = min([put[4] for put in lines])
    return moved_lines(lines, -x, -y, -z)


def turned_lines(parts, lines, turns):
    """The lines turned clockwise, and then moved home."""
    for turn in range(turns):
        lines = [turned_line(parts, put) for put in lines]
    return moved_home(lines)


def turned_line(parts, put):
    # (x, y) goes to (y, 63 - x): what is at the line's last x comes to its least y, and so is its place.
    last = put[2] + turned_sizes(parts[put[0]], put[5])[0] - 1
    return (put[0], put[1], put[3], ROOM_WIDTH - 1 - last, put[4], (put[5] + 1) % 4)


def plain_lines(parts, lines):
    """The lines moved home, each with the least turns with which it is alike to what it is, and in order."""
    rounds = {}
    for number in sorted(set([put[0] for put in lines])):
        rounds[number] = turns_until_alike(parts[number])
    # Each side of a right part's box has a cell: where two lines are alike, their places are the same, too.
    plain = [put[:5] + (put[5] % rounds[put[0]],) for put in moved_home(lines)]
    return sorted(plain, key=plain_order)


def plain_order(put):
    return (put[4], put[3], put[2], put[0], put[1], put[5])


def turns_between(parts, first, second):
    """The least turns by which the first lines are the same as the second ones; above MOST_TURNS if by none."""
    wanted = plain_lines(parts, second)
    for turns in range(MOST_TURNS + 1):
        if plain_lines(parts, turned_lines(parts, first, turns)) == wanted:
            return turns
    return MOST_TURNS + 1
