"""Catalogues and builds for the tests, and slow answers made straight from the document's words."""

import re
from itertools import product

BLANK_BUILD = "build a\n"
SIGNS = ".#stb"


def given(text):
    return [ord(sign) for sign in text]


def box(name, width, depth, height, sign="#", weight=1):
    """A part's text whose cells are all alike, or from the bottom up as the signs tell."""
    signs = sign if len(sign) == height else sign * height
    layers = [(layer * width + "\n") * depth for layer in signs]
    return f"part {name} {width} {depth} {height} {weight}\n" + "".join(layers)


def part(name, *layers, weight=1):
    """A part's text from its layers, bottom up, each a text with its rows parted by blanks."""
    rows = [layer.split(" ") for layer in layers]
    head = f"part {name} {len(rows[0][0])} {len(rows[0])} {len(rows)} {weight}\n"
    return head + "".join(row + "\n" for layer in rows for row in layer)


def build(*lines, name="a"):
    """A build's text; a line is written (part's name, x, y, z) or with turns and colour behind."""
    text = f"build {name}\n"
    for put in lines:
        word, x, y, z, turns, colour = tuple(put) + (0, 0)[len(put) - 4:]
        text += f"put {word} {colour} {x} {y} {z} {turns}\n"
    return text


# Names of which one begins with another, in a right catalogue's order.
NAMES = ["a", "ab", "ab0", "b1", "longname", "z"]
NAMED = "".join(box(name, 1, 1, 1, "b") for name in NAMES)

# A stud and tube, no stud and tube, a stud alone, a tube alone: parts of one cell each.
CELLS = box("bare", 1, 1, 1, "#") + box("both", 1, 1, 1, "b") + box("stud", 1, 1, 1, "s") + box("tube", 1, 1, 1, "t")


def number_form(least, most):
    return "(?:" + "|".join(str(number) for number in range(most, least - 1, -1)) + ")"


def line_form(names):
    words = "(?:" + "|".join(sorted(names, key=len, reverse=True)) + ")"
    forms = [number_form(0, most) for most in (255, 63, 63, 95, 3)]
    return f"put {words} " + " ".join(forms) + "\n"


def build_form(names):
    return re.compile("build [a-z][a-z0-9]{0,15}\n(?:" + line_form(names) + "){0,256}")


def endings(names):
    """Whatever begins a build's text is made whole by one of these."""
    wholes = ["build a\n"] + [f"put {name} 0 0 0 0 0\n" for name in names]
    return [""] + sorted({whole[k:] for whole in wholes for k in range(len(whole))})


def slow_fault(text, names):
    """None for a build's text, else the fault: the longest beginning that some ending makes whole."""
    form = build_form(names)
    if form.fullmatch(text):
        return None
    for size in range(len(text), -1, -1):
        if any(form.fullmatch(text[:size] + ending) for ending in endings(names)):
            return size
    raise ValueError("the empty text begins each build's")


def slow_cells(layers, turns):
    """The part's (width, depth, height) and its cells, from layers as part() has them, by the closed form of a turn."""
    rows = [layer.split(" ") for layer in layers]
    width, depth, height = len(rows[0][0]), len(rows[0]), len(rows)
    goes_to = [
        lambda x, y: (x, y),
        lambda x, y: (y, width - 1 - x),
        lambda x, y: (width - 1 - x, depth - 1 - y),
        lambda x, y: (depth - 1 - y, x),
    ][turns]
    cells = {}
    for x, y, z in product(range(width), range(depth), range(height)):
        if rows[z][y][x] != ".":
            cells[goes_to(x, y) + (z,)] = rows[z][y][x]
    return ((width, depth, height) if turns in (0, 2) else (depth, width, height)), cells


def slow_check(shapes, lines):
    """check's answer, line by line and pair by pair. shapes: layers by name; lines as build() has them."""
    spread = []
    for word, x, y, z, turns in lines:
        size, cells = slow_cells(shapes[word], turns)
        last = (x + size[0] - 1, y + size[1] - 1, z + size[2] - 1)
        spread.append((last, {(x + p, y + q, z + s): sign for (p, q, s), sign in cells.items()}))
    for j, (last, cells) in enumerate(spread):
        if last[0] > 63 or last[1] > 63 or last[2] > 95:
            return [-9, 1, j, j]
        for what, holds in ((2, share_a_place), (3, stud_blocked)):
            for i in range(j):
                if holds(spread[i][1], cells):
                    return [-9, what, j, i]
    return [0]


def share_a_place(first, second):
    return len(set(first) & set(second)) > 0


def stud_blocked(first, second):
    for lower, upper in ((first, second), (second, first)):
        for (x, y, z), sign in lower.items():
            if sign in "sb" and upper.get((x, y, z + 1), "t") not in "tb":
                return True
    return False
