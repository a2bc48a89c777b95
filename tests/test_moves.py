"""Builds moved and turned: the answered text, how far the room lets, and that a build stays as right as it was."""

import unittest
from itertools import product

from brickrooms.builds import check, clutch, group, judge, moved, sizes, turned
from tests.making import (ANGLE, BLANK_BUILD, CELLS, NAMED, NAMES, SHAPED, SHAPES, box, build, given, grown_builds,
                          part, shifted, slow_leaves_room, slow_put, slow_turned, told)

FAR = (64, 95, 96, 128, 2 ** 32, 2 ** 64, 10 ** 30 - 1, 10 ** 30)
BUILDS = grown_builds(9, 60)


def moved_of(way, catalogue, *lines):
    return moved(way[0], way[1], way[2], given(catalogue), given(build(*lines)))


def turned_of(r, catalogue, *lines):
    return turned(r, given(catalogue), given(build(*lines)))


def told_build(*lines):
    return told(build(*lines))


def holding(b):
    """Of each two lines of a build of SHAPES their clutch, and of each line its group."""
    c = given(SHAPED)
    count = judge(c, b)[0]
    return [[clutch(i, j, c, b) for j in range(count)] for i in range(count)], [group(i, c, b) for i in range(count)]


class Moved(unittest.TestCase):
    def test_ordinary(self):
        lines = [("a", 5, 6, 7, 1, 200), ("a", 20, 30, 40, 3)]
        wanted = "build a\nput a 200 15 7 7 1\nput a 0 30 31 40 3\n"
        self.assertEqual(moved_of((10, 1, 0), ANGLE, *lines), told(wanted))

    def test_by_nothing(self):
        for lines in BUILDS[:10]:
            self.assertEqual(moved_of((0, 0, 0), SHAPED, *lines), told_build(*lines))

    def test_by_numbers_below_nought(self):
        lines = [("a", 5, 6, 7, 1), ("a", 20, 30, 40, 3)]
        self.assertEqual(moved_of((-5, -6, -7), ANGLE, *lines), told("build a\nput a 0 0 0 0 1\nput a 0 15 24 33 3\n"))
        self.assertEqual(moved_of((-4, 20, -1), ANGLE, *lines), told("build a\nput a 0 1 26 6 1\nput a 0 16 50 39 3\n"))

    def test_name_colour_turns_and_order_stay(self):
        c = given(CELLS)
        for name in ("a", "z9", "abcdefghijklmnop"):
            puts = [("tube", 9, 8, 7, 3, 255), ("bare", 1, 1, 1, 2, 10), ("stud", 20, 30, 90, 1, 0)]
            b = given(build(*puts, name=name))
            self.assertEqual(moved(1, 2, 3, c, b), told(build(*shifted(puts, (1, 2, 3)), name=name)))

    def test_names_of_parts(self):
        puts = [(name, k, 0, 0) for k, name in enumerate(NAMES)]
        self.assertEqual(moved_of((9, 9, 9), NAMED, *puts), told_build(*shifted(puts, (9, 9, 9))))

    def test_how_many_bytes_comes_first(self):
        self.assertEqual(moved_of((9, 9, 9), CELLS, ("bare", 0, 0, 0))[0], 27)
        self.assertEqual(moved_of((10, 9, 9), CELLS, ("bare", 0, 0, 0))[0], 28)
        self.assertEqual(moved_of((-10, -10, -10), CELLS, ("bare", 10, 10, 10))[0], 27)
        self.assertEqual(moved_of((0, 0, 0), CELLS)[0], 8)

    def test_the_longest_text(self):
        puts = [("longname", k % 54, k // 54, 0, 3, 255) for k in range(256)]
        b = given(build(*puts, name="abcdefghijklmnop"))
        wanted = build(*shifted(puts, (10, 10, 95)), name="abcdefghijklmnop")
        self.assertEqual(len(wanted), 7191)
        self.assertEqual(moved(10, 10, 95, given(NAMED), b), told(wanted))
        self.assertEqual(turned(0, given(NAMED), given(wanted)), [len(b)] + b)

    def test_each_line_by_itself_to_every_place(self):
        catalogue = box("a", 16, 15, 14)
        start = (20, 30, 40)
        for axis, room, size in ((0, 64, 16), (1, 64, 15), (2, 96, 14)):
            for to in range(-5, room + 5):
                way = [0, 0, 0]
                way[axis] = to - start[axis]
                place = list(start)
                place[axis] = to
                wanted = told_build(("a", *place)) if 0 <= to <= room - size else [-3]
                self.assertEqual(moved_of(way, catalogue, ("a", *start)), wanted, (axis, to))

    def test_as_far_as_the_room_lets(self):
        # Wider than deep; turned once and three times it is deeper than wide.
        catalogue = box("a", 5, 3, 2)
        for turns in range(4):
            size = (5, 3, 2) if turns in (0, 2) else (3, 5, 2)
            lines = [("a", 20, 20, 20, turns), ("a", 30, 31, 32, turns)]
            low = (-20, -20, -20)
            high = (64 - size[0] - 30, 64 - size[1] - 31, 96 - size[2] - 32)
            for way in product(*zip(low, high)):
                self.assertEqual(moved_of(way, catalogue, *lines), told_build(*shifted(lines, way)))
                for axis in range(3):
                    further = list(way)
                    further[axis] += 1 if way[axis] > 0 else -1
                    self.assertEqual(moved_of(further, catalogue, *lines), [-3], further)

    def test_a_place_without_a_cell_beyond(self):
        # Each of its corners is without a cell at some turn and height.
        catalogue = part("a", ".#. ###", ".#. ...")
        for turns in range(4):
            size = (3, 2, 2) if turns in (0, 2) else (2, 3, 2)
            start = (30, 30, 30)
            last = (64 - size[0], 64 - size[1], 96 - size[2])
            for corner in product(*zip((0, 0, 0), last)):
                way = [corner[axis] - start[axis] for axis in range(3)]
                self.assertEqual(moved_of(way, catalogue, ("a", *start, turns)), told_build(("a", *corner, turns)))
                for axis in range(3):
                    further = list(way)
                    further[axis] += 1 if corner[axis] > 0 else -1
                    self.assertEqual(moved_of(further, catalogue, ("a", *start, turns)), [-3])

    def test_one_line_beyond_is_enough(self):
        lines = [("bare", 10, 10, 10), ("bare", 63, 20, 20), ("bare", 20, 0, 20), ("bare", 20, 20, 95)]
        for way, wanted in (((1, 0, 0), False), ((0, -1, 0), False), ((0, 0, 1), False), ((-10, 0, 0), True),
                            ((-11, 0, 0), False), ((0, 43, 0), True), ((0, 44, 0), False), ((0, 0, -10), True),
                            ((0, 0, -11), False), ((-1, 1, -1), True)):
            answer = told_build(*shifted(lines, way)) if wanted else [-3]
            self.assertEqual(moved_of(way, CELLS, *lines), answer, way)

    def test_no_lines_moved_by_anything(self):
        for far in (0, 1, 63) + FAR:
            for way in product((far, -far, 0), repeat=3):
                self.assertEqual(moved_of(way, CELLS), told(BLANK_BUILD))

    def test_very_large_numbers(self):
        for far in FAR[2:]:
            for way in product((far, -far, 0), repeat=3):
                wanted = told_build(("bare", 0, 0, 95)) if way == (0, 0, 0) else [-3]
                self.assertEqual(moved_of(way, CELLS, ("bare", 0, 0, 95)), wanted, way)

    def test_ways_that_add_up_beside_the_room(self):
        # Beyond to the right, though the place's number, row by row, would be one in the room.
        for way in ((64, -1, 0), (-1, 1, 0), (0, 64, -1), (0, -1, 1), (-64, 1, 0)):
            self.assertEqual(moved_of(way, CELLS, ("bare", 0, 0, 5), ("bare", 0, 5, 5)), [-3])

    def test_not_right(self):
        for lines in ([("bare", 3, 3, 3)] * 2, [("stud", 3, 3, 3), ("bare", 3, 3, 4)]):
            for way in ((0, 0, 0), (1, 1, 1), (-9, 0, 0), (10 ** 30, 0, 0)):
                self.assertEqual(moved_of(way, CELLS, *lines), [-9])
        # Beyond the room; moved it would be right.
        self.assertEqual(moved_of((-1, 0, 0), ANGLE, ("a", 62, 0, 0)), [-9])

    def test_grown_builds_against_the_words(self):
        seen = [0, 0]
        for k, lines in enumerate(BUILDS):
            for way in ((k % 5 - 2, k % 7 - 3, k % 3 - 1), (k, 0, 0), (0, -k, 0), (0, 0, k), (-1, -1, -1)):
                after = shifted(lines, way)
                beyond = any(min(put[1:4]) < 0 or slow_leaves_room(slow_put(SHAPES, put)[0]) for put in after)
                seen[beyond] += 1
                self.assertEqual(moved_of(way, SHAPED, *lines), [-3] if beyond else told_build(*after), (way, lines))
        self.assertGreater(min(seen), 50)

    def test_as_right_as_it_was_and_back(self):
        c = given(SHAPED)
        kept = 0
        for k, lines in enumerate(BUILDS[:24]):
            b = given(build(*lines))
            way = ((1, 0, 0), (-1, 0, 0), (0, 2, 0), (0, -2, 0), (0, 0, 1), (1, 1, 1))[k % 6]
            answer = moved(*way, c, b)
            if answer != [-3]:
                kept += 1
                self.assertEqual(answer[0], len(answer) - 1)
                self.assertEqual((judge(c, answer[1:]), check(c, answer[1:])), ([len(lines)], [0]))
                self.assertEqual(holding(answer[1:]), holding(b))
                self.assertEqual(sizes(c, answer[1:])[:5], sizes(c, b)[:5])
                self.assertEqual(moved(*[-step for step in way], c, answer[1:]), told_build(*lines))
        self.assertGreater(kept, 8)


class Turned(unittest.TestCase):
    def test_ordinary_by_hand(self):
        lines = [("a", 0, 0, 0, 0, 17), ("a", 10, 4, 3, 0, 255)]
        by_hand = [
            [("a", 0, 0, 0, 0, 17), ("a", 10, 4, 3, 0, 255)],
            [("a", 0, 10, 0, 1, 17), ("a", 4, 0, 3, 1, 255)],
            [("a", 10, 4, 0, 2, 17), ("a", 0, 0, 3, 2, 255)],
            [("a", 4, 0, 0, 3, 17), ("a", 0, 10, 3, 3, 255)],
        ]
        for r, wanted in enumerate(by_hand):
            self.assertEqual(turned_of(r, ANGLE, *lines), told_build(*wanted), r)
            self.assertEqual(turned_of(r, ANGLE, *shifted(lines, (13, 31, 50))), told_build(*wanted), r)

    def test_one_line_comes_home(self):
        for place, turns, r in product(((0, 0, 0), (5, 6, 7), (61, 61, 95)), range(4), range(4)):
            wanted = told_build(("a", 0, 0, 0, (turns + r) % 4, 9))
            self.assertEqual(turned_of(r, ANGLE, ("a", *place, turns, 9)), wanted)

    def test_nought_moves_home(self):
        lines = [("bare", 5, 9, 8, 3), ("bare", 7, 6, 20, 1), ("bare", 9, 9, 7, 2)]
        self.assertEqual(turned_of(0, CELLS, *lines), told_build(*shifted(lines, (-5, -6, -7))))
        home = shifted(lines, (-5, -6, -7))
        self.assertEqual(turned_of(0, CELLS, *home), told_build(*home))

    def test_turns_go_from_3_to_nought(self):
        lines = [("a", 0, 0, 0, 3), ("a", 5, 0, 0, 2), ("a", 10, 0, 0, 1), ("a", 15, 0, 0)]
        for r in range(4):
            c = given(ANGLE)
            text = "".join(chr(byte) for byte in turned_of(r, ANGLE, *lines)[1:])
            self.assertEqual([row[-1] for row in text.split("\n")[1:-1]], [str((t + r) % 4) for t in (3, 2, 1, 0)])
            self.assertEqual(check(c, given(text)), [0])

    def test_parts_wider_than_deep_without_a_cell_at_their_own_nought(self):
        shapes = {"a": (".##", "##."), "b": ("...# ####",)}
        catalogue = "".join(part(name, *layers) for name, layers in shapes.items())
        for first, second, r in product(range(4), range(4), range(4)):
            lines = [("a", 20, 30, 4, first, 1), ("b", 27, 25, 3, second, 2), ("a", 11, 40, 9, second, 3)]
            wanted = told_build(*slow_turned(shapes, lines, r))
            self.assertEqual(turned_of(r, catalogue, *lines), wanted, (first, second, r))

    def test_home_by_the_least_of_the_cells(self):
        # Least x, y and z are those of three lines, none of which has a cell at its own (0, 0, 0).
        shapes = {"a": (".# ##", ".. #."), "b": (".#", "##")}
        catalogue = "".join(part(name, *layers) for name, layers in shapes.items())
        lines = [("a", 10, 30, 30, 0), ("a", 30, 10, 30, 0), ("b", 30, 30, 10, 0)]
        self.assertEqual(turned_of(0, catalogue, *lines), told_build(*shifted(lines, (-10, -10, -10))))
        for r in range(4):
            self.assertEqual(turned_of(r, catalogue, *lines), told_build(*slow_turned(shapes, lines, r)))

    def test_no_lines(self):
        for r in range(4):
            self.assertEqual(turned_of(r, CELLS), told(BLANK_BUILD))
            self.assertEqual(turned(r, given(CELLS), given("build abc0\n")), told("build abc0\n"))

    def test_r_above_3(self):
        for r in (4, 5, 7, 8) + FAR:
            self.assertEqual(turned_of(r, CELLS), [-1])
            self.assertEqual(turned_of(r, CELLS, ("bare", 0, 0, 0)), [-1])

    def test_the_room_s_far_edges(self):
        lines = [("bare", x, y, z, 0, k) for k, (x, y, z) in enumerate(product((0, 63), (0, 63), (0, 95)))]
        for r in range(4):
            after = lines
            for turn in range(r):
                after = [(name, y, 63 - x, z, (turns + 1) % 4, k) for name, x, y, z, turns, k in after]
            self.assertEqual(turned_of(r, CELLS, *lines), told_build(*after))
        # All of it at the far corner.
        catalogue = box("a", 5, 3, 2)
        for r in range(4):
            lines = [("a", 59, 61, 94), ("a", 54, 61, 92, 2)]
            wanted = [[(5, 0, 2, 0), (0, 0, 0, 2)], [(0, 0, 2, 1), (0, 5, 0, 3)],
                      [(0, 0, 2, 2), (5, 0, 0, 0)], [(0, 5, 2, 3), (0, 0, 0, 1)]][r]
            self.assertEqual(turned_of(r, catalogue, *lines), told_build(*[("a",) + put for put in wanted]))

    def test_the_order_of_the_lines_and_the_name_stay(self):
        c = given(CELLS)
        puts = [("tube", 9, 1, 7, 0, 5), ("bare", 1, 1, 1, 0, 6), ("stud", 5, 1, 3, 0, 7), ("bare", 0, 1, 9, 0, 8)]
        wanted = [("tube", 9, 0, 6, 0, 5), ("bare", 1, 0, 0, 0, 6), ("stud", 5, 0, 2, 0, 7), ("bare", 0, 0, 8, 0, 8)]
        self.assertEqual(turned(0, c, given(build(*puts, name="tower0"))), told(build(*wanted, name="tower0")))
        wanted = [("tube", 0, 0, 6, 1, 5), ("bare", 0, 8, 0, 1, 6), ("stud", 0, 4, 2, 1, 7), ("bare", 0, 9, 8, 1, 8)]
        self.assertEqual(turned(1, c, given(build(*puts, name="tower0"))), told(build(*wanted, name="tower0")))

    def test_not_right(self):
        for r in range(4):
            self.assertEqual(turned_of(r, CELLS, ("bare", 3, 3, 3), ("bare", 3, 3, 3)), [-9])
            self.assertEqual(turned_of(r, CELLS, ("stud", 3, 3, 3), ("bare", 3, 3, 4)), [-9])
            self.assertEqual(turned_of(r, ANGLE, ("a", 62, 0, 0)), [-9])

    def test_grown_builds_against_the_words(self):
        for lines in BUILDS:
            for r in range(4):
                self.assertEqual(turned_of(r, SHAPED, *lines), told_build(*slow_turned(SHAPES, lines, r)), (r, lines))

    def test_once_four_times_is_home(self):
        c = given(SHAPED)
        for lines in BUILDS:
            b = given(build(*lines))
            home = turned(0, c, b)
            after = b
            for r in (1, 2, 3, 4):
                after = turned(1, c, after)[1:]
                self.assertEqual(after, turned(r % 4, c, b)[1:])
            self.assertEqual(after, home[1:])
            self.assertEqual(turned(2, c, turned(2, c, b)[1:]), home)
            self.assertEqual(turned(1, c, turned(3, c, b)[1:]), home)

    def test_as_right_as_it_was(self):
        c = given(SHAPED)
        for k, lines in enumerate(BUILDS[24:48]):
            b = given(build(*lines))
            answer = turned(k % 4, c, b)
            self.assertEqual(answer[0], len(answer) - 1)
            self.assertEqual((judge(c, answer[1:]), check(c, answer[1:])), ([len(lines)], [0]))
            self.assertEqual(holding(answer[1:]), holding(b))
            self.assertEqual(sizes(c, answer[1:])[:5], sizes(c, b)[:5])

    def test_where_a_build_was_moved_is_nothing_to_it(self):
        c = given(SHAPED)
        for lines in BUILDS[:20]:
            b = given(build(*lines))
            for way in ((1, 0, 0), (0, -1, 0), (0, 0, 1), (-2, 3, 1)):
                after = moved(*way, c, b)
                if after != [-3]:
                    for r in range(4):
                        self.assertEqual(turned(r, c, after[1:]), turned(r, c, b))


if __name__ == "__main__":
    unittest.main()
