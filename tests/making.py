"""Catalogues and builds for the tests, and slow answers made straight from the document's words."""

import random
import re
from itertools import product

BLANK_BUILD = "build a\n"
SIGNS = ".#stb"


def given(text):
    return [ord(sign) for sign in text]


def box(name, width, depth, height, sign="#", weight=1):
    """A part's text whose cells are all alike, or from the bottom up as the signs tell."""
    signs = sign if len(sign) == height else sign * height
    layers = [(layer * width + "\n") * depth for layer in signs]
    return f"part {name} {width} {depth} {height} {weight}\n" + "".join(layers)


def part(name, *layers, weight=1):
    """A part's text from its layers, bottom up, each a text with its rows parted by blanks."""
    rows = [layer.split(" ") for layer in layers]
    head = f"part {name} {len(rows[0][0])} {len(rows[0])} {len(rows)} {weight}\n"
    return head + "".join(row + "\n" for layer in rows for row in layer)


def told(text):
    """How a text is answered."""
    return [len(text)] + given(text)


def lines_told(answer):
    """The lines of an answered text, as build() has them."""
    rows = "".join(chr(byte) for byte in answer[1:]).split("\n")[1:-1]
    words = [row.split(" ") for row in rows]
    return [(name, int(x), int(y), int(z), int(turns), int(colour)) for put, name, colour, x, y, z, turns in words]


def build(*lines, name="a"):
    """A build's text; a line is written (part's name, x, y, z) or with turns and colour behind."""
    text = f"build {name}\n"
    for put in lines:
        word, x, y, z, turns, colour = tuple(put) + (0, 0)[len(put) - 4:]
        text += f"put {word} {colour} {x} {y} {z} {turns}\n"
    return text


# Names of which one begins with another, in a right catalogue's order.
NAMES = ["a", "ab", "ab0", "b1", "longname", "z"]
NAMED = "".join(box(name, 1, 1, 1, "b") for name in NAMES)

# A stud and tube, no stud and tube, a stud alone, a tube alone: parts of one cell each.
CELLS = box("bare", 1, 1, 1, "#") + box("both", 1, 1, 1, "b") + box("stud", 1, 1, 1, "s") + box("tube", 1, 1, 1, "t")

# An angle, and by hand where its cells are when it is turned 0 to 3 times.
ANGLE = part("a", "### #..")
ANGLE_TURNED = [
    {(0, 0), (1, 0), (2, 0), (0, 1)},
    {(0, 2), (0, 1), (0, 0), (1, 2)},
    {(2, 1), (1, 1), (0, 1), (2, 0)},
    {(1, 0), (1, 1), (1, 2), (0, 0)},
]


def number_form(least, most):
    return "(?:" + "|".join(str(number) for number in range(most, least - 1, -1)) + ")"


def line_form(names):
    words = "(?:" + "|".join(sorted(names, key=len, reverse=True)) + ")"
    forms = [number_form(0, most) for most in (255, 63, 63, 95, 3)]
    return f"put {words} " + " ".join(forms) + "\n"


def build_form(names):
    return re.compile("build [a-z][a-z0-9]{0,15}\n(?:" + line_form(names) + "){0,256}")


def endings(names):
    """Whatever begins a build's text is made whole by one of these."""
    wholes = ["build a\n"] + [f"put {name} 0 0 0 0 0\n" for name in names]
    return [""] + sorted({whole[k:] for whole in wholes for k in range(len(whole))})


def slow_fault(text, names):
    """None for a build's text, else the fault: the longest beginning that some ending makes whole."""
    form = build_form(names)
    if form.fullmatch(text):
        return None
    for size in range(len(text), -1, -1):
        if any(form.fullmatch(text[:size] + ending) for ending in endings(names)):
            return size
    raise ValueError("the empty text begins each build's")


def slow_cells(layers, turns):
    """The part's (width, depth, height) and its cells, from layers as part() has them, by the closed form of a turn."""
    rows = [layer.split(" ") for layer in layers]
    width, depth, height = len(rows[0][0]), len(rows[0]), len(rows)
    goes_to = [
        lambda x, y: (x, y),
        lambda x, y: (y, width - 1 - x),
        lambda x, y: (width - 1 - x, depth - 1 - y),
        lambda x, y: (depth - 1 - y, x),
    ][turns]
    cells = {}
    for x, y, z in product(range(width), range(depth), range(height)):
        if rows[z][y][x] != ".":
            cells[goes_to(x, y) + (z,)] = rows[z][y][x]
    return ((width, depth, height) if turns in (0, 2) else (depth, width, height)), cells


def slow_put(shapes, put):
    """The last of the line's places, and its cells in the room. put: as build() has it, with its turns."""
    word, x, y, z, turns = put[:5]
    size, cells = slow_cells(shapes[word], turns)
    last = (x + size[0] - 1, y + size[1] - 1, z + size[2] - 1)
    return last, {(x + p, y + q, z + s): sign for (p, q, s), sign in cells.items()}


def slow_spread(shapes, lines):
    """Of each line its cells in the room."""
    return [slow_put(shapes, put)[1] for put in lines]


def slow_leaves_room(last):
    return last[0] > 63 or last[1] > 63 or last[2] > 95


def slow_check(shapes, lines):
    """check's answer, line by line and pair by pair. shapes: layers by name; lines as build() has them."""
    spread = slow_spread(shapes, lines)
    for j, cells in enumerate(spread):
        if slow_leaves_room(slow_put(shapes, lines[j])[0]):
            return [-9, 1, j, j]
        for what, holds in ((2, share_a_place), (3, stud_blocked)):
            for i in range(j):
                if holds(spread[i], cells):
                    return [-9, what, j, i]
    return [0]


def share_a_place(first, second):
    return len(set(first) & set(second)) > 0


def stud_blocked(first, second):
    for lower, upper in ((first, second), (second, first)):
        for (x, y, z), sign in lower.items():
            if sign in "sb" and upper.get((x, y, z + 1), "t") not in "tb":
                return True
    return False


def slow_clutch(first, second):
    """How many studs of the first line have a cell of the second with a tube just above; of each its cells."""
    return sum(sign in "sb" and second.get((x, y, z + 1), "#") in "tb" for (x, y, z), sign in first.items())


def slow_clutches(shapes, lines):
    """Row by row the clutch of each line and each."""
    spread = slow_spread(shapes, lines)
    return [[slow_clutch(first, second) for second in spread] for first in spread]


def slow_groups(shapes, lines):
    """Of each line the least of its group: what two lines that hold on have is made one until nothing changes."""
    rows = slow_clutches(shapes, lines)
    least = list(range(len(lines)))
    before = None
    while least != before:
        before = list(least)
        for i, j in product(range(len(lines)), repeat=2):
            if rows[i][j] > 0 or rows[j][i] > 0:
                least[i] = least[j] = min(least[i], least[j])
    return least


def slow_sizes(shapes, weights, lines):
    spread = slow_spread(shapes, lines)
    studs = sum(sum(row) for row in slow_clutches(shapes, lines))
    groups = len(set(slow_groups(shapes, lines)))
    weight = sum(weights[put[0]] for put in lines)
    height = max([z + 1 for cells in spread for x, y, z in cells], default=0)
    return [len(lines), sum(len(cells) for cells in spread), studs, groups, weight, height]


def slow_turned(shapes, lines, turns):
    """The lines turned and moved home, cell by cell; then each line's place is sought by its cells."""
    spread = slow_spread(shapes, lines)
    for turn in range(turns):
        spread = [{(y, 63 - x, z): sign for (x, y, z), sign in cells.items()} for cells in spread]
    found = []
    for put, cells in zip(lines, spread):
        again = slow_placed(shapes, put, (put[4] + turns) % 4, cells)
        if slow_put(shapes, again)[1] != cells:
            raise ValueError("no place has these cells")
        found.append(again)
    if not lines:
        return []
    home = least_of([place for cells in spread for place in cells])
    return shifted(found, tuple(-step for step in home))


def least_of(places):
    return tuple(min(place[axis] for place in places) for axis in range(3))


def slow_plain(shapes, lines):
    """The lines made plain: of each the turns are tried from 0 on, the place sought by its cells."""
    plain = []
    for put in slow_turned(shapes, lines, 0):
        cells = slow_put(shapes, put)[1]
        tried = [slow_placed(shapes, put, turns, cells) for turns in range(4)]
        plain.append([again for again in tried if slow_put(shapes, again)[1] == cells][0])
    numbers = {name: number for number, name in enumerate(sorted(shapes))}
    return sorted(plain, key=lambda put: (put[3], put[2], put[1], numbers[put[0]], put[5:], put[4]))


def slow_placed(shapes, put, turns, cells):
    """The line with other turns, at the one place where its least x, y and z are those of the cells."""
    own = slow_cells(shapes[put[0]], turns)[1]
    place = tuple(a - b for a, b in zip(least_of(cells), least_of(own)))
    return (put[0],) + place + (turns,) + tuple(put[5:])


def slow_same(shapes, first, second):
    """same's answer, without making plain: of each line the part, the colour and the cells are set side by side."""
    wanted = slow_picture(slow_spread(shapes, second), second)
    spread = slow_spread(shapes, first)
    for turns in range(4):
        if slow_picture(spread, first) == wanted:
            return [turns]
        spread = [{(y, 63 - x, z): sign for (x, y, z), sign in cells.items()} for cells in spread]
    return [-3]


def slow_picture(spread, lines):
    """What two builds have alike wherever they are and in whatever order their lines are."""
    if not lines:
        return []
    home = least_of([place for cells in spread for place in cells])
    shown = []
    for cells, put in zip(spread, lines):
        at_home = sorted((tuple(a - b for a, b in zip(place, home)), sign) for place, sign in cells.items())
        shown.append((put[0], put[5:], at_home))
    return sorted(shown)


def shifted(lines, way):
    return [(put[0],) + tuple(a + b for a, b in zip(put[1:4], way)) + tuple(put[4:]) for put in lines]


# Parts of many forms, some without a cell at their own (0, 0, 0); frame takes another between its arms.
SHAPES = {
    "beam": ("bbb",),
    "ell": ("bb b.",),
    "frame": ("#s", "#.", "#t"),
    "hook": ("..t", "bbs"),
    "lid": ("tt tt", "#. ##"),
    "pin": ("b",),
    "tee": (".b. bbb",),
    "tile": ("tt tt tt",),
}
WEIGHTS = {name: 3 * k + 1 for k, name in enumerate(sorted(SHAPES))}
SHAPED = "".join(part(name, *SHAPES[name], weight=WEIGHTS[name]) for name in sorted(SHAPES))


def grown(source, corner, width, tries):
    """Lines of a right build of SHAPES: each was kept because nothing is wrong between it and those before it."""
    kept = []
    spread = []
    for k in range(tries):
        place = tuple(corner[axis] + source.randrange(width) for axis in range(3))
        put = (source.choice(sorted(SHAPES)),) + place + (source.randrange(4), source.randrange(256))
        last, cells = slow_put(SHAPES, put)
        clash = any(share_a_place(other, cells) or stud_blocked(other, cells) for other in spread)
        if not clash and not slow_leaves_room(last):
            kept.append(put)
            spread.append(cells)
    return kept


def grown_builds(seed, count):
    """Right builds, scattered and crowded, in the room's near and far corners and amid it."""
    source = random.Random(seed)
    corners = ((0, 0, 0), (57, 57, 89), (30, 20, 10), (0, 57, 0), (57, 0, 89))
    return [grown(source, source.choice(corners), source.choice((4, 5, 7)), source.choice((2, 10, 60)))
            for k in range(count)]
