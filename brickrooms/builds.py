"""The calls. Each answers a list of whole numbers; a number below 0 in front is a refusal."""

from brickrooms.catalogues import catalogue_right, read_catalogue
from brickrooms.rooms import first_wrong, read_build
from brickrooms.texts import Stuck

MOST_CATALOGUE_BYTES = 1048576
MOST_BUILD_BYTES = 16384


class Given:
    """What c and b hold; or the refusal, below 0, and with -5 the fault."""

    def __init__(self, refusal, fault, parts, lines):
        self.refusal = refusal
        self.fault = fault
        self.parts = parts
        self.lines = lines


def read_given(c, b):
    """Looks at what all calls refuse, in the document's order."""
    if len(c) > MOST_CATALOGUE_BYTES or len(b) > MOST_BUILD_BYTES:
        return Given(-2, 0, [], [])
    try:
        parts = read_catalogue(c)
    except Stuck:
        return Given(-6, 0, [], [])
    if not catalogue_right(parts):
        return Given(-8, 0, [], [])
    try:
        lines = read_build(b, [part.name for part in parts])
    except Stuck as e:
        return Given(-5, e.fault, [], [])
    return Given(0, 0, parts, lines)


def judge(c, b):
    """How many lines the build has, right or not; -5 with the fault."""
    given = read_given(c, b)
    if given.refusal == -5:
        return [-5, given.fault]
    if given.refusal < 0:
        return [given.refusal]
    return [len(given.lines)]


def check(c, b):
    """0 if the build is right; -9 with what is wrong (1 to 3), j and i."""
    given = read_given(c, b)
    if given.refusal < 0:
        return [given.refusal]
    wrong = first_wrong(given.parts, given.lines)
    if len(wrong) > 0:
        return [-9] + wrong
    return [0]


def line(i, c, b):
    """Line i's part, colour, x, y, z and turns, of a build that is not right, too; -4 if there is no such line."""
    given = read_given(c, b)
    if given.refusal < 0:
        return [given.refusal]
    if i >= len(given.lines):
        return [-4]
    return list(given.lines[i])
