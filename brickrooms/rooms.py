"""Builds in the room: their text, what is where, and when they are right.

A line is a tuple: its part's number, colour, x, y, z, turns.
"""

from brickrooms.catalogues import above, below, has_stud, has_tube, turned_part, turned_sizes
from brickrooms.texts import Reader, Stuck, spelled

ROOM_WIDTH = 64
ROOM_DEPTH = 64
ROOM_HEIGHT = 96

LONGEST_BUILD_NAME = 16
MOST_LINES = 256
MOST_COLOUR = 255
MOST_TURNS = 3


class Build:
    """name: its bytes; lines: right or not."""

    def __init__(self, name, lines):
        self.name = name
        self.lines = lines


class Room:
    """signs: of each place with a cell the byte that tells its stud and tube; owners: the line that it is of.

    wrong: what is wrong (1 to 3), j and i; an empty list if nothing is.
    """

    def __init__(self):
        # No two lines in the room have a cell at one place: each place has one owner.
        self.signs = {}
        self.owners = {}
        self.wrong = []


def read_build(b, names):
    """The build, right or not; Stuck if b is no build's text of the catalogue with these names."""
    reader = Reader(b)
    reader.read_word("build ")
    name = reader.read_name(LONGEST_BUILD_NAME)
    reader.read_word("\n")
    lines = []
    while len(lines) < MOST_LINES and not reader.ended():
        lines.append(read_line(reader, names))
    reader.read_end()
    return Build(name, lines)


def read_line(reader, names):
    reader.read_word("put ")
    numbers = [read_part_number(reader, names)]
    for most in (MOST_COLOUR, ROOM_WIDTH - 1, ROOM_DEPTH - 1, ROOM_HEIGHT - 1, MOST_TURNS):
        reader.read_word(" ")
        numbers.append(reader.read_number(0, most))
    reader.read_word("\n")
    return tuple(numbers)


def read_part_number(reader, names):
    # Only names of the catalogue can go on here, so each byte is looked at, not the whole word.
    beginning = ()
    while some_begins(names, beginning + (reader.here(),)):
        beginning = beginning + (reader.take(),)
    if beginning not in names:
        raise Stuck(reader.position)
    return names.index(beginning)


def some_begins(names, beginning):
    return any([name[:len(beginning)] == beginning for name in names])


def build_text(build, names):
    """The build's text; names: the catalogue's."""
    text = spelled("build ") + list(build.name) + spelled("\n")
    for put in build.lines:
        text.extend(spelled("put ") + list(names[put[0]]))
        for number in put[1:]:
            text.extend(spelled(f" {number}"))
        text.extend(spelled("\n"))
    return text


def fill_room(parts, lines):
    """The room with the lines put in, up to the first with which something is wrong."""
    room = Room()
    for j, put in enumerate(lines):
        cells = cells_in_room(parts, put)
        room.wrong = [1, j, j] if leaves_room(parts, put) else wrong_with(room, cells, j)
        if len(room.wrong) > 0:
            return room
        for place, sign in cells.items():
            room.signs[place] = sign
            room.owners[place] = j
    return room


def wrong_with(room, cells, j):
    """What is wrong between line j, of which these are the cells, and a line in the room; an empty list if nothing."""
    hit = [room.owners[place] for place in cells if place in room.owners]
    if len(hit) > 0:
        return [2, j, min(hit)]
    blocked = blocked_lines(cells, room)
    if len(blocked) > 0:
        return [3, j, min(blocked)]
    return []


def leaves_room(parts, put):
    """Whether one of the line's places, with a cell or without, is beyond the room."""
    size = turned_sizes(parts[put[0]], put[5])
    return beyond_room(put[2], put[3], put[4]) or beyond_room(
        put[2] + size[0] - 1, put[3] + size[1] - 1, put[4] + size[2] - 1)


def beyond_room(x, y, z):
    return not (0 <= x < ROOM_WIDTH and 0 <= y < ROOM_DEPTH and 0 <= z < ROOM_HEIGHT)


def cells_in_room(parts, put):
    cells = {}
    for place, sign in turned_part(parts[put[0]], put[5]).cells.items():
        cells[(put[2] + place[0], put[3] + place[1], put[4] + place[2])] = sign
    return cells


def blocked_lines(cells, room):
    """The lines that have a stud just below a cell without a tube of these cells, or the other way round."""
    blocked = []
    for place, sign in cells.items():
        over = above(place)
        if has_stud(sign) and over in room.signs and not has_tube(room.signs[over]):
            blocked.append(room.owners[over])
        under = below(place)
        if not has_tube(sign) and under in room.signs and has_stud(room.signs[under]):
            blocked.append(room.owners[under])
    return blocked
