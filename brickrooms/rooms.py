"""Builds in the room: their text, what is where, and when they are right.

A line is a tuple: its part's number, colour, x, y, z, turns.
"""

from brickrooms.catalogues import above, below, has_stud, has_tube, turned_part
from brickrooms.texts import Reader, Stuck

ROOM_WIDTH = 64
ROOM_DEPTH = 64
ROOM_HEIGHT = 96

LONGEST_BUILD_NAME = 16
MOST_LINES = 256
MOST_COLOUR = 255
MOST_TURNS = 3


class Room:
    """signs: of each place with a cell the byte that tells its stud and tube; owners: the line that it is of.

    wrong: what is wrong (1 to 3), j and i; an empty list if nothing is.
    """

    def __init__(self):
        # No two lines in the room have a cell at one place: each place has one owner.
        self.signs = {}
        self.owners = {}
        self.wrong = []


def read_build(b, names):
    """The lines, right or not; Stuck if b is no build's text of the catalogue with these names."""
    reader = Reader(b)
    reader.read_word("build ")
    reader.read_name(LONGEST_BUILD_NAME)
    reader.read_word("\n")
    lines = []
    while len(lines) < MOST_LINES and not reader.ended():
        lines.append(read_line(reader, names))
    reader.read_end()
    return lines


def read_line(reader, names):
    reader.read_word("put ")
    numbers = [read_part_number(reader, names)]
    for most in (MOST_COLOUR, ROOM_WIDTH - 1, ROOM_DEPTH - 1, ROOM_HEIGHT - 1, MOST_TURNS):
        reader.read_word(" ")
        numbers.append(reader.read_number(0, most))
    reader.read_word("\n")
    return tuple(numbers)


def read_part_number(reader, names):
    # Only names of the catalogue can go on here, so each byte is looked at, not the whole word.
    beginning = ()
    while some_begins(names, beginning + (reader.here(),)):
        beginning = beginning + (reader.take(),)
    if beginning not in names:
        raise Stuck(reader.position)
    return names.index(beginning)


def some_begins(names, beginning):
    return any([name[:len(beginning)] == beginning for name in names])


def fill_room(parts, lines):
    """The room with the lines put in, up to the first with which something is wrong."""
    room = Room()
    for j, put in enumerate(lines):
        part = turned_part(parts[put[0]], put[5])
        cells = cells_in_room(part, put)
        room.wrong = wrong_with(room, part, put, cells, j)
        if len(room.wrong) > 0:
            return room
        for place, sign in cells.items():
            room.signs[place] = sign
            room.owners[place] = j
    return room


def wrong_with(room, part, put, cells, j):
    """What is wrong with line j, and with which line; an empty list if nothing is."""
    if leaves_room(part, put):
        return [1, j, j]
    hit = [room.owners[place] for place in cells if place in room.owners]
    if len(hit) > 0:
        return [2, j, min(hit)]
    blocked = blocked_lines(cells, room)
    if len(blocked) > 0:
        return [3, j, min(blocked)]
    return []


def leaves_room(part, put):
    return put[2] + part.width > ROOM_WIDTH or put[3] + part.depth > ROOM_DEPTH or put[4] + part.height > ROOM_HEIGHT


def cells_in_room(part, put):
    cells = {}
    for place, sign in part.cells.items():
        cells[(put[2] + place[0], put[3] + place[1], put[4] + place[2])] = sign
    return cells


def blocked_lines(cells, room):
    """The lines that have a stud just below a cell without a tube of these cells, or the other way round."""
    blocked = []
    for place, sign in cells.items():
        over = above(place)
        if has_stud(sign) and over in room.signs and not has_tube(room.signs[over]):
            blocked.append(room.owners[over])
        under = below(place)
        if not has_tube(sign) and under in room.signs and has_stud(room.signs[under]):
            blocked.append(room.owners[under])
    return blocked


def beyond_room(x, y, z):
    return x >= ROOM_WIDTH or y >= ROOM_DEPTH or z >= ROOM_HEIGHT
