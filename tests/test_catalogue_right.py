"""The catalogue's rightness: each of its five rules by itself, and the edges beside it."""

import random
import unittest
from itertools import product

from brickrooms.builds import check, judge, line
from tests.making import BLANK_BUILD, SIGNS, box, given, part


def answer(text):
    return judge(given(text), given(BLANK_BUILD))


def slow_right(layers):
    """Rules 1 to 4, by the document's words."""
    rows = [layer.split(" ") for layer in layers]
    width, depth, height = len(rows[0][0]), len(rows[0]), len(rows)
    places = product(range(width), range(depth), range(height))
    cells = {(x, y, z): rows[z][y][x] for x, y, z in places if rows[z][y][x] != "."}
    if any(sign in "sb" and (x, y, z + 1) in cells for (x, y, z), sign in cells.items()):
        return False
    if any(sign in "tb" and (x, y, z - 1) in cells for (x, y, z), sign in cells.items()):
        return False
    for axis, size in enumerate((width, depth, height)):
        if not {0, size - 1} <= {place[axis] for place in cells}:
            return False
    near = {place: {other for other in cells if sum(abs(p - q) for p, q in zip(place, other)) == 1} for place in cells}
    joined = {min(cells)}
    while any(near[place] - joined for place in joined):
        joined = joined.union(*(near[place] for place in joined))
    return len(joined) == len(cells)


class CatalogueRight(unittest.TestCase):
    def right(self, text):
        self.assertEqual(answer(text), [0], text)

    def wrong(self, text):
        c = given(text)
        b = given(BLANK_BUILD)
        self.assertEqual([judge(c, b), check(c, b), line(0, c, b)], [[-8], [-8], [-8]], text)

    def test_no_cell_above_a_stud(self):
        for sign in "sb":
            self.right(part("a", "#", sign.replace("b", "s")))
            self.wrong(part("a", sign, "#"))
            self.wrong(part("a", sign, "s"))
            self.wrong(part("a", "##", "#" + sign, "##"))
            self.right(part("a", "#" + sign, "#."))
        # Two layers up is not just above.
        self.right(part("a", "#s", "#.", "##"))

    def test_no_cell_below_a_tube(self):
        for sign in "tb":
            self.right(part("a", sign.replace("b", "t"), "#"))
            self.wrong(part("a", "#", sign))
            self.wrong(part("a", "t", "t"))
            self.wrong(part("a", "##", "#" + sign, "##"))
            self.right(part("a", "#.", "#" + sign))
        self.right(part("a", "##", "#.", "#t"))

    def test_a_stud_below_a_tube_of_its_own_is_wrong_too(self):
        self.wrong(part("a", "s", "t"))
        self.wrong(part("a", "b", "b"))

    def test_a_cell_at_each_side(self):
        self.right(part("a", "## ##", "## ##"))
        self.wrong(part("a", ".# .#"))
        self.wrong(part("a", "#. #."))
        self.wrong(part("a", ".. ##"))
        self.wrong(part("a", "## .."))
        self.wrong(part("a", "..", "##"))
        self.wrong(part("a", "##", ".."))
        # One cell at a side is enough.
        self.right(part("a", "..#. .### ##.. .#.."))

    def test_cells_hang_together(self):
        self.wrong(part("a", "#.#"))
        self.wrong(part("a", "# . #"))
        self.wrong(part("a", "#", ".", "#"))
        # Corner to corner is not side by side.
        self.wrong(part("a", "#. .#"))
        self.wrong(part("a", "#.", ".#"))
        self.wrong(part("a", "# .", ". #"))
        self.right(part("a", "#. ##"))
        self.right(part("a", "#.#", "###"))
        self.right(part("a", "#.# #.# ###"))
        self.wrong(part("a", "### #.# ###", "... ... ...", "### ### ###"))

    def test_cells_hang_together_each_way(self):
        # A winding way, so that each of the six steps is needed from one end or the other.
        for layers in (("##### #.... ##### ....# #####",), ("#.### #.#.# ###.#",), ("#", "#", "#"),
                       ("#.#", "###"), ("###", "#.#"), ("#.. ...", "##. .#.", "... .##")):
            self.assertTrue(slow_right(layers), layers)
            self.right(part("a", *layers))

    def test_no_cell_at_all(self):
        self.wrong(part("a", "."))
        self.wrong(part("a", ".. ..", ".. .."))

    def test_a_wrong_part_anywhere(self):
        parts = [box(f"a{k}", 1, 1, 1) for k in range(5)]
        self.right("".join(parts))
        for k in range(5):
            self.wrong("".join(parts[:k]) + part(f"a{k}", "#.#") + "".join(parts[k + 1:]))

    def names(self, *names):
        return "".join(box(name, 1, 1, 1) for name in names)

    def test_names_grow(self):
        self.right(self.names("a", "b", "c"))
        self.wrong(self.names("b", "a"))
        self.wrong(self.names("a", "a"))
        self.wrong(self.names("a", "c", "b"))
        self.wrong(self.names("a", "b", "b"))
        self.wrong(self.names("a", "b", "a"))

    def test_names_byte_by_byte(self):
        self.right(self.names("a", "ab"))
        self.right(self.names("a", "a0", "a01", "aa", "b"))
        self.wrong(self.names("ab", "a"))
        self.wrong(self.names("abcdefgh", "abcdefg"))
        # A longer name is the lesser all the same, and a digit is less than a letter.
        self.right(self.names("az", "b"))
        self.wrong(self.names("b", "az"))
        self.right(self.names("a9", "aa"))
        self.wrong(self.names("aa", "a9"))
        self.right(self.names("a10", "a9"))
        self.wrong(self.names("a9", "a10"))

    def test_against_the_words_of_the_rules(self):
        source = random.Random(2)
        seen = [0, 0]
        for count in range(3000):
            width, depth, height = source.choice([(1, 1, 2), (2, 1, 2), (2, 2, 2), (3, 2, 1), (3, 1, 3), (3, 3, 1)])
            signs = source.choice(["." + "#" * 6, "####.s", "####.t", "." * 2 + SIGNS + "#" * 4])
            layers = [" ".join("".join(source.choice(signs) for x in range(width)) for y in range(depth))
                      for z in range(height)]
            wanted = slow_right(layers)
            seen[wanted] += 1
            self.assertEqual(answer(part("a", *layers)), [0] if wanted else [-8], layers)
        self.assertGreater(min(seen), 300)


if __name__ == "__main__":
    unittest.main()
