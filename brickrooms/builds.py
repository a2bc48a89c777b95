"""The calls. Each answers a list of whole numbers; a number below 0 in front is a refusal."""

from brickrooms.catalogues import catalogue_right, read_catalogue
from brickrooms.holding import clutches, least_of_groups
from brickrooms.moves import moved_lines, plain_lines, turned_lines, turns_between
from brickrooms.rooms import MOST_TURNS, Build, beyond_room, build_text, fill_room, leaves_room, read_build
from brickrooms.rows import ROW_PLACES, ROWS, are_rows, moved_rows, places_in_both
from brickrooms.texts import Stuck

MOST_CATALOGUE_BYTES = 1048576
MOST_BUILD_BYTES = 16384
# By what c and b are refused, in the order in which it is looked at: of two builds the first of these is told.
REFUSALS = (-2, -6, -8, -5, -9)


class Given:
    """What c and b hold, and where asked for the room; or the refusal, below 0, and with -5 the fault."""

    def __init__(self, refusal, fault, parts, build):
        self.refusal = refusal
        self.fault = fault
        self.parts = parts
        self.build = build
        self.room = None


def read_given(c, b):
    """Looks at what all calls refuse, in the document's order."""
    if len(c) > MOST_CATALOGUE_BYTES or len(b) > MOST_BUILD_BYTES:
        return Given(-2, 0, [], None)
    try:
        parts = read_catalogue(c)
    except Stuck:
        return Given(-6, 0, [], None)
    if not catalogue_right(parts):
        return Given(-8, 0, [], None)
    try:
        build = read_build(b, names_of(parts))
    except Stuck as e:
        return Given(-5, e.fault, [], None)
    return Given(0, 0, parts, build)


def names_of(parts):
    return [part.name for part in parts]


def read_right(c, b):
    """The room is filled, too; refused with -9 if the build is not right."""
    given = read_given(c, b)
    if given.refusal == 0:
        given.room = fill_room(given.parts, given.build.lines)
        if len(given.room.wrong) > 0:
            given.refusal = -9
    return given


def first_refusal(one, other):
    """Which of the two's refusals is looked at first; 0 if neither is refused."""
    for refusal in REFUSALS:
        if refusal in (one.refusal, other.refusal):
            return refusal
    return 0


def with_lines(given, lines):
    """The answer that tells the text of the build with these lines in the place of its own."""
    text = build_text(Build(given.build.name, lines), names_of(given.parts))
    return [len(text)] + text


def judge(c, b):
    """How many lines the build has, right or not; -5 with the fault."""
    given = read_given(c, b)
    if given.refusal == -5:
        return [-5, given.fault]
    if given.refusal < 0:
        return [given.refusal]
    return [len(given.build.lines)]


def check(c, b):
    """0 if the build is right; -9 with what is wrong (1 to 3), j and i."""
    given = read_right(c, b)
    if given.refusal == -9:
        return [-9] + given.room.wrong
    return [given.refusal]


def line(i, c, b):
    """Line i's part, colour, x, y, z and turns, of a build that is not right, too; -4 if there is no such line."""
    given = read_given(c, b)
    if given.refusal < 0:
        return [given.refusal]
    if i >= len(given.build.lines):
        return [-4]
    return list(given.build.lines[i])


def sizes(c, b):
    """How many lines, cells, studs in tubes, groups; the weight of all; how high it is."""
    given = read_right(c, b)
    if given.refusal < 0:
        return [given.refusal]
    counts = clutches(given.room)
    groups = len(set(least_of_groups(len(given.build.lines), counts)))
    weight = sum([given.parts[put[0]].weight for put in given.build.lines])
    height = max([place[2] + 1 for place in given.room.signs], default=0)
    return [len(given.build.lines), len(given.room.signs), sum(counts.values()), groups, weight, height]


def at(x, y, z, c, b):
    """The line that has a cell at (x, y, z); -4 if that is beyond the room, -3 if no line has."""
    given = read_right(c, b)
    if given.refusal < 0:
        return [given.refusal]
    if beyond_room(x, y, z):
        return [-4]
    return [given.room.owners.get((x, y, z), -3)]


def clutch(i, j, c, b):
    """How many studs of line i have a cell of line j with a tube just above; -4 if one of them is not there."""
    given = read_right(c, b)
    if given.refusal < 0:
        return [given.refusal]
    if i >= len(given.build.lines) or j >= len(given.build.lines):
        return [-4]
    return [clutches(given.room).get((i, j), 0)]


def group(i, c, b):
    """The least line of line i's group; -4 if there is no such line."""
    given = read_right(c, b)
    if given.refusal < 0:
        return [given.refusal]
    if i >= len(given.build.lines):
        return [-4]
    return [least_of_groups(len(given.build.lines), clutches(given.room))[i]]


def moved(dx, dy, dz, c, b):
    """How many bytes the build's text moved has, and they; -3 if one of its places would be beyond the room."""
    given = read_right(c, b)
    if given.refusal < 0:
        return [given.refusal]
    lines = moved_lines(given.build.lines, dx, dy, dz)
    if any([leaves_room(given.parts, put) for put in lines]):
        return [-3]
    return with_lines(given, lines)


def turned(r, c, b):
    """How many bytes the build's text turned r times and moved home has, and they; -1 if r is above 3."""
    if r > MOST_TURNS:
        return [-1]
    given = read_right(c, b)
    if given.refusal < 0:
        return [given.refusal]
    return with_lines(given, turned_lines(given.parts, given.build.lines, r))


def plain(c, b):
    """How many bytes the build's text made plain has, and they."""
    given = read_right(c, b)
    if given.refusal < 0:
        return [given.refusal]
    return with_lines(given, plain_lines(given.parts, given.build.lines))


def same(c, b, d):
    """The least r by which b's and d's builds are the same; -3 if by none."""
    one = read_right(c, b)
    other = read_right(c, d)
    refusal = first_refusal(one, other)
    if refusal < 0:
        return [refusal]
    turns = turns_between(one.parts, one.build.lines, other.build.lines)
    return [-3] if turns > MOST_TURNS else [turns]


def rowsmoved(dx, dy, l):
    """Eight rows moved by dx modulo 64 and dy modulo 8; -1 if l is not eight rows."""
    if not are_rows(l):
        return [-1]
    return moved_rows(l, dx % ROW_PLACES, dy % ROWS)


def rowshit(a, b):
    """How many places are 1 in both; -1 if a or b is not eight rows."""
    if not are_rows(a) or not are_rows(b):
        return [-1]
    return [places_in_both(a, b)]
