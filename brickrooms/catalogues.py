"""Parts and catalogues: their text, when they are right, and parts turned."""

from brickrooms.texts import Reader

MOST_PARTS = 64
LONGEST_PART_NAME = 8
MOST_WIDTH = 16
MOST_DEPTH = 16
MOST_HEIGHT = 18
MOST_WEIGHT = 9999

# The bytes . s t b, and in SIGNS # for a cell with neither stud nor tube.
NO_CELL = 46
STUD = 115
TUBE = 116
BOTH = 98
SIGNS = (46, 35, 115, 116, 98)


class Part:
    """cells: of each place (x, y, z) with a cell the byte that tells its stud and tube."""

    def __init__(self, name, width, depth, height, weight, cells):
        self.name = name
        self.width = width
        self.depth = depth
        self.height = height
        self.weight = weight
        self.cells = cells


def has_stud(sign):
    return sign == STUD or sign == BOTH


def has_tube(sign):
    return sign == TUBE or sign == BOTH


def above(place):
    return (place[0], place[1], place[2] + 1)


def below(place):
    return (place[0], place[1], place[2] - 1)


def read_catalogue(c):
    """The parts, right or not; Stuck if c is no catalogue's text."""
    reader = Reader(c)
    parts = [read_part(reader)]
    while len(parts) < MOST_PARTS and not reader.ended():
        parts.append(read_part(reader))
    reader.read_end()
    return parts


def read_part(reader):
    reader.read_word("part ")
    name = reader.read_name(LONGEST_PART_NAME)
    reader.read_word(" ")
    width = reader.read_number(1, MOST_WIDTH)
    reader.read_word(" ")
    depth = reader.read_number(1, MOST_DEPTH)
    reader.read_word(" ")
    height = reader.read_number(1, MOST_HEIGHT)
    reader.read_word(" ")
    weight = reader.read_number(1, MOST_WEIGHT)
    reader.read_word("\n")
    return Part(name, width, depth, height, weight, read_cells(reader, width, depth, height))


def read_cells(reader, width, depth, height):
    cells = {}
    for z in range(height):
        for y in range(depth):
            for x in range(width):
                sign = reader.read_one_of(SIGNS)
                if sign != NO_CELL:
                    cells[(x, y, z)] = sign
            reader.read_word("\n")
    return cells


def catalogue_right(parts):
    return all([part_right(part) for part in parts]) and names_grow(parts)


def part_right(part):
    return studs_clear(part) and tubes_clear(part) and fills_its_box(part) and hangs_together(part)


def studs_clear(part):
    for place, sign in part.cells.items():
        if has_stud(sign) and above(place) in part.cells:
            return False
    return True


def tubes_clear(part):
    for place, sign in part.cells.items():
        if has_tube(sign) and below(place) in part.cells:
            return False
    return True


def fills_its_box(part):
    sizes = (part.width, part.depth, part.height)
    for axis, size in enumerate(sizes):
        reached = [place[axis] for place in part.cells]
        if 0 not in reached or size - 1 not in reached:
            return False
    return True


def hangs_together(part):
    """Whether all cells are reached from the first one, and there is one."""
    if len(part.cells) == 0:
        return False
    start = list(part.cells)[0]
    reached = {start: True}
    waiting = [start]
    while len(waiting) > 0:
        reached_last = waiting.pop()
        for place in neighbours(reached_last):
            if place in part.cells and place not in reached:
                reached[place] = True
                waiting.append(place)
    return len(reached) == len(part.cells)


def neighbours(place):
    x = place[0]
    y = place[1]
    z = place[2]
    return [(x - 1, y, z), (x + 1, y, z), (x, y - 1, z), (x, y + 1, z), above(place), below(place)]


def names_grow(parts):
    for k in range(1, len(parts)):
        if parts[k].name <= parts[k - 1].name:
            return False
    return True


def turned_sizes(part, turns):
    """Width, depth and height of the part turned."""
    if turns % 2 == 1:
        return (part.depth, part.width, part.height)
    return (part.width, part.depth, part.height)


def turned_part(part, turns):
    for turn in range(turns):
        part = turned_once(part)
    return part


def turned_once(part):
    cells = {}
    for place, sign in part.cells.items():
        cells[(place[1], part.width - 1 - place[0], place[2])] = sign
    return Part(part.name, part.depth, part.width, part.height, part.weight, cells)


def turns_until_alike(part):
    """How many turns bring its cells, studs and tubes to where they were: 1, 2 or, as it is with all parts, 4."""
    for turns in (1, 2):
        if turned_part(part, turns).cells == part.cells:
            return turns
    return 4
