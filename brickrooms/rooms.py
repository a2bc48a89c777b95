"""Builds in the room: their text, and when they are right.

A line is a tuple: its part's number, colour, x, y, z, turns.
"""

from brickrooms.catalogues import above, below, has_stud, has_tube, turned_part
from brickrooms.texts import Reader, Stuck

ROOM_WIDTH = 64
ROOM_DEPTH = 64
ROOM_HEIGHT = 96

LONGEST_BUILD_NAME = 16
MOST_LINES = 256
MOST_COLOUR = 255
MOST_TURNS = 3


def read_build(b, names):
    """The lines, right or not; Stuck if b is no build's text of the catalogue with these names."""
    reader = Reader(b)
    reader.read_word("build ")
    reader.read_name(LONGEST_BUILD_NAME)
    reader.read_word("\n")
    lines = []
    while len(lines) < MOST_LINES and not reader.ended():
        lines.append(read_line(reader, names))
    reader.read_end()
    return lines


def read_line(reader, names):
    reader.read_word("put ")
    numbers = [read_part_number(reader, names)]
    for most in (MOST_COLOUR, ROOM_WIDTH - 1, ROOM_DEPTH - 1, ROOM_HEIGHT - 1, MOST_TURNS):
        reader.read_word(" ")
        numbers.append(reader.read_number(0, most))
    reader.read_word("\n")
    return tuple(numbers)


def read_part_number(reader, names):
    # Only names of the catalogue can go on here, so each byte is looked at, not the whole word.
    beginning = ()
    while some_begins(names, beginning + (reader.here(),)):
        beginning = beginning + (reader.take(),)
    if beginning not in names:
        raise Stuck(reader.position)
    return names.index(beginning)


def some_begins(names, beginning):
    return any([name[:len(beginning)] == beginning for name in names])


def first_wrong(parts, lines):
    """What is wrong (1 to 3), j and i; an empty list if the build is right."""
    # Of the lines before j no two have a cell at one place: each place has one owner.
    signs = {}
    owners = {}
    for j, put in enumerate(lines):
        part = turned_part(parts[put[0]], put[5])
        if leaves_room(part, put):
            return [1, j, j]
        cells = cells_in_room(part, put)
        hit = [owners[place] for place in cells if place in owners]
        if len(hit) > 0:
            return [2, j, min(hit)]
        blocked = blocked_lines(cells, signs, owners)
        if len(blocked) > 0:
            return [3, j, min(blocked)]
        for place, sign in cells.items():
            signs[place] = sign
            owners[place] = j
    return []


def leaves_room(part, put):
    return put[2] + part.width > ROOM_WIDTH or put[3] + part.depth > ROOM_DEPTH or put[4] + part.height > ROOM_HEIGHT


def cells_in_room(part, put):
    cells = {}
    for place, sign in part.cells.items():
        cells[(put[2] + place[0], put[3] + place[1], put[4] + place[2])] = sign
    return cells


def blocked_lines(cells, signs, owners):
    """The lines that have a stud just below a cell without a tube of these cells, or the other way round."""
    blocked = []
    for place, sign in cells.items():
        over = above(place)
        if has_stud(sign) and over in signs and not has_tube(signs[over]):
            blocked.append(owners[over])
        under = below(place)
        if not has_tube(sign) and under in signs and has_stud(signs[under]):
            blocked.append(owners[under])
    return blocked
