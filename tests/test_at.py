"""What is where: at, and with it that a right build has one part at most at each place."""

import unittest
from itertools import product

from brickrooms.builds import at, sizes
from tests.making import ANGLE, ANGLE_TURNED, CELLS, SHAPED, SHAPES, box, build, given, grown_builds, part, slow_spread

TOO_FAR = (2 ** 31, 2 ** 64, 10 ** 30 - 1, 10 ** 30)


def at_of(place, catalogue, *lines):
    return at(place[0], place[1], place[2], given(catalogue), given(build(*lines)))


class At(unittest.TestCase):
    def test_ordinary(self):
        catalogue = box("a", 3, 2, 4)
        lines = [("a", 10, 20, 30), ("a", 13, 20, 30), ("a", 10, 20, 34)]
        self.assertEqual(at_of((10, 20, 30), catalogue, *lines), [0])
        self.assertEqual(at_of((12, 21, 33), catalogue, *lines), [0])
        self.assertEqual(at_of((13, 20, 30), catalogue, *lines), [1])
        self.assertEqual(at_of((15, 21, 33), catalogue, *lines), [1])
        self.assertEqual(at_of((12, 21, 34), catalogue, *lines), [2])

    def test_just_beside_there_is_none(self):
        catalogue = box("a", 3, 2, 4)
        for x, y, z in product(range(9, 14), range(19, 23), range(29, 35)):
            inside = 10 <= x <= 12 and 20 <= y <= 21 and 30 <= z <= 33
            self.assertEqual(at_of((x, y, z), catalogue, ("a", 10, 20, 30)), [0] if inside else [-3])

    def test_no_lines(self):
        for place in ((0, 0, 0), (63, 63, 95), (30, 30, 30)):
            self.assertEqual(at_of(place, CELLS), [-3])

    def test_a_place_of_the_box_without_a_cell(self):
        catalogue = part("a", "### #..", "#.. ...") + box("b", 1, 1, 1)
        self.assertEqual(at_of((6, 6, 0), catalogue, ("a", 5, 5, 0)), [-3])
        self.assertEqual(at_of((6, 5, 1), catalogue, ("a", 5, 5, 0)), [-3])
        self.assertEqual(at_of((5, 5, 1), catalogue, ("a", 5, 5, 0)), [0])
        # Another line may have it.
        self.assertEqual(at_of((6, 6, 0), catalogue, ("a", 5, 5, 0), ("b", 6, 6, 0)), [1])
        self.assertEqual(at_of((6, 6, 0), catalogue, ("b", 6, 6, 0), ("a", 5, 5, 0)), [0])

    def test_own_place_nought_without_a_cell(self):
        catalogue = part("a", ".# ##")
        self.assertEqual(at_of((5, 5, 5), catalogue, ("a", 5, 5, 5)), [-3])
        self.assertEqual(at_of((5, 5, 5), catalogue, ("a", 5, 5, 5, 1)), [0])
        self.assertEqual(at_of((5, 6, 5), catalogue, ("a", 5, 5, 5, 1)), [-3])

    def test_turned(self):
        for turns, cells in enumerate(ANGLE_TURNED):
            for x, y in product(range(-1, 4), repeat=2):
                wanted = [0] if (x, y) in cells else [-3]
                self.assertEqual(at_of((20 + x, 30 + y, 0), ANGLE, ("a", 20, 30, 0, turns)), wanted)

    def test_every_kind_of_cell(self):
        for name in ("bare", "both", "stud", "tube"):
            self.assertEqual(at_of((4, 5, 6), CELLS, ("bare", 0, 0, 0), (name, 4, 5, 6)), [1])

    def test_the_room_s_edges(self):
        lines = [("bare", x, y, z) for x, y, z in product((0, 63), (0, 63), (0, 95))]
        for k, (name, x, y, z) in enumerate(lines):
            self.assertEqual(at_of((x, y, z), CELLS, *lines), [k])
        for place in ((62, 63, 95), (63, 62, 95), (63, 63, 94), (1, 0, 0), (0, 1, 0), (0, 0, 1)):
            self.assertEqual(at_of(place, CELLS, *lines), [-3])

    def test_beyond_the_room(self):
        lines = [("bare", 63, 63, 95), ("bare", 0, 0, 0)]
        for far in (64, 65, 95, 96, 128) + TOO_FAR:
            for near in (0, 63):
                self.assertEqual(at_of((far, near, near), CELLS, *lines), [-4])
                self.assertEqual(at_of((near, far, near), CELLS, *lines), [-4])
                self.assertEqual(at_of((far, far, near), CELLS), [-4])
        for far in (96, 97, 127, 128) + TOO_FAR:
            for near in (0, 63):
                self.assertEqual(at_of((near, near, far), CELLS, *lines), [-4])
            self.assertEqual(at_of((far, far, far), CELLS, *lines), [-4])
        for x, y, z in product((63, 64), (63, 64), (95, 96)):
            wanted = [0] if (x, y, z) == (63, 63, 95) else [-4]
            self.assertEqual(at_of((x, y, z), CELLS, *lines), wanted)
        # 64 to 95 are beyond to the right and to the back, not above.
        self.assertEqual([at_of((0, 0, z), CELLS) for z in (64, 95)], [[-3], [-3]])

    def test_not_right(self):
        lines = [("bare", 0, 0, 0), ("bare", 1, 0, 0), ("bare", 1, 0, 0)]
        for place in ((0, 0, 0), (1, 0, 0), (5, 5, 5), (64, 0, 0), (10 ** 30, 0, 0)):
            self.assertEqual(at_of(place, CELLS, *lines), [-9])

    def test_each_place_of_grown_builds(self):
        for lines in grown_builds(8, 8):
            spread = slow_spread(SHAPES, lines)
            near = {(x + p, y + q, z + s) for cells in spread for x, y, z in cells
                    for p, q, s in ((0, 0, 0), (1, 0, 0), (0, 1, 0), (0, 0, 1), (0, 0, -1))}
            c = given(SHAPED)
            b = given(build(*lines))
            held = 0
            for x, y, z in sorted(place for place in near if min(place) >= 0):
                there = [k for k, cells in enumerate(spread) if (x, y, z) in cells]
                wanted = [-4] if x > 63 or y > 63 or z > 95 else there or [-3]
                self.assertEqual(at(x, y, z, c, b), wanted, (x, y, z))
                held += len(there)
            self.assertEqual(held, sizes(c, b)[1])


if __name__ == "__main__":
    unittest.main()
