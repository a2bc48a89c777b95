"""What holds on to what: sizes, clutch and group."""

import unittest
from itertools import permutations, product

from brickrooms.builds import check, clutch, group, line, sizes
from tests.making import (CELLS, SHAPED, SHAPES, WEIGHTS, box, build, given, grown_builds, part, slow_clutches,
                          slow_groups, slow_sizes)

# A plate that holds on above and below, one that is smooth all over, and one whose arms are above and below others.
PLATES = (part("arms", "#s", "#.", "#.", "#t", weight=40) + part("core", "t", "s", weight=5)
          + box("plate", 2, 2, 1, "b", weight=100) + box("smooth", 2, 2, 1, "#", weight=9999))


def sizes_of(catalogue, *lines):
    return sizes(given(catalogue), given(build(*lines)))


def clutch_of(i, j, catalogue, *lines):
    return clutch(i, j, given(catalogue), given(build(*lines)))


def groups_of(catalogue, *lines):
    """Line by line the least of its group."""
    c = given(catalogue)
    b = given(build(*lines))
    answers = [group(i, c, b) for i in range(len(lines))]
    return answers[0] if answers and answers[0][0] < 0 else [number for answer in answers for number in answer]


class Sizes(unittest.TestCase):
    def told(self, lines, wanted, catalogue=PLATES):
        self.assertEqual(check(given(catalogue), given(build(*lines))), [0])
        self.assertEqual(sizes_of(catalogue, *lines), wanted, lines)

    def test_no_lines(self):
        self.told([], [0, 0, 0, 0, 0, 0])

    def test_one_line(self):
        self.told([("plate", 0, 0, 0)], [1, 4, 0, 1, 100, 1])
        self.told([("plate", 62, 62, 95)], [1, 4, 0, 1, 100, 96])
        self.told([("arms", 5, 6, 7, 1)], [1, 6, 0, 1, 40, 11])
        self.told([("core", 63, 63, 94, 3)], [1, 2, 0, 1, 5, 96])

    def test_ordinary(self):
        self.told([("plate", 0, 0, 0), ("plate", 1, 1, 1), ("plate", 8, 8, 0)], [3, 12, 1, 2, 300, 2])

    def test_side_by_side_is_no_holding_on(self):
        for x, y in ((2, 0), (0, 2), (2, 1), (1, 2), (2, 2)):
            self.told([("plate", 0, 0, 0), ("plate", x, y, 0)], [2, 8, 0, 2, 200, 1])

    def test_one_above_the_other_without_a_stud_in_a_tube(self):
        self.told([("smooth", 0, 0, 0), ("smooth", 0, 0, 1)], [2, 8, 0, 2, 19998, 2])
        # Tubes with no stud below.
        self.told([("smooth", 0, 0, 0), ("plate", 0, 0, 1)], [2, 8, 0, 2, 10099, 2])
        # A place between them: the studs are free.
        self.told([("plate", 0, 0, 0), ("smooth", 0, 0, 2)], [2, 8, 0, 2, 10099, 3])
        self.told([("plate", 0, 0, 0), ("plate", 0, 0, 2)], [2, 8, 0, 2, 200, 3])
        # Corner by corner.
        self.told([("plate", 0, 0, 0), ("plate", 2, 2, 1)], [2, 8, 0, 2, 200, 2])

    def test_several_studs_between_the_same_lines(self):
        for x, y in product((-2, -1, 0, 1, 2), repeat=2):
            studs = (2 - abs(x)) * (2 - abs(y))
            lines = [("plate", 5, 5, 0), ("plate", 5 + x, 5 + y, 1)]
            self.told(lines, [2, 8, studs, 1 if studs else 2, 200, 2])
            self.told(lines[::-1], [2, 8, studs, 1 if studs else 2, 200, 2])

    def test_both_ways_round(self):
        lines = [("arms", 0, 0, 0), ("core", 1, 0, 1)]
        self.told(lines, [2, 8, 2, 1, 45, 4])
        self.told(lines[::-1], [2, 8, 2, 1, 45, 4])

    def test_above_and_below(self):
        tower = [("plate", 0, 0, z) for z in range(5)]
        self.told(tower, [5, 20, 16, 1, 500, 5])
        self.told(tower[::-1], [5, 20, 16, 1, 500, 5])
        self.told(tower[:2] + tower[3:], [4, 16, 8, 2, 400, 5])

    def test_groups_that_come_together_by_a_third(self):
        bridged = [("plate", 0, 0, 0), ("plate", 2, 0, 0), ("plate", 1, 0, 1)]
        self.told(bridged[:2], [2, 8, 0, 2, 200, 1])
        for lines in permutations(bridged):
            self.told(list(lines), [3, 12, 4, 1, 300, 2])

    def test_groups_that_come_together_by_the_last_line(self):
        feet = [("plate", 2 * k, 0, 0) for k in range(8)]
        caps = [("plate", 2 * k + 1, 0, 1) for k in range(7)]
        self.told(feet + caps, [15, 60, 28, 1, 1500, 2])
        self.told(feet + caps[:6], [14, 56, 24, 2, 1400, 2])
        self.told(feet + caps[:3] + caps[4:], [14, 56, 24, 2, 1400, 2])
        self.told(caps[::-1] + feet[::-1], [15, 60, 28, 1, 1500, 2])
        self.told(feet, [8, 32, 0, 8, 800, 1])

    def test_turned_studs_and_tubes(self):
        # Its one stud is at (2, 0) and turns with it; the pin above is held where the stud has come to be.
        catalogue = part("a", "##s #..") + box("pin", 1, 1, 1, "t")
        for turns, where in ((0, (2, 0)), (1, (0, 0)), (2, (0, 1)), (3, (1, 2))):
            for x, y in product(range(3), repeat=2):
                studs = int((x, y) == where)
                wanted = [2, 5, studs, 2 - studs, 2, 11]
                self.told([("a", 7, 8, 9, turns), ("pin", 7 + x, 8 + y, 10)], wanted, catalogue)

    def test_weight_of_all(self):
        self.told([("smooth", 2 * (k % 32), 2 * (k // 32), 0) for k in range(256)],
                  [256, 1024, 0, 256, 256 * 9999, 1])
        self.told([("core", 0, 0, 0), ("arms", 5, 0, 0), ("core", 9, 0, 0), ("core", 11, 0, 0)],
                  [4, 12, 0, 4, 55, 4])

    def test_how_high(self):
        catalogue = part("hat", "#..", "###", "..#") + part("step", "#.", "##")
        for z in (0, 1, 40, 93):
            self.told([("hat", 0, 0, z)], [1, 5, 0, 1, 1, z + 3], catalogue)
        self.told([("hat", 0, 0, 20), ("step", 0, 0, 22)], [2, 8, 0, 2, 2, 24], catalogue)
        # The highest is not the last line, and not the one that begins highest.
        self.told([("hat", 0, 0, 5), ("step", 9, 0, 5), ("step", 12, 0, 0)], [3, 11, 0, 3, 3, 8], catalogue)
        self.told([("hat", 0, 0, 0), ("step", 9, 0, 0)], [2, 8, 0, 2, 2, 3], catalogue)

    def test_colour_and_name_are_nothing_to_it(self):
        c = given(PLATES)
        for colour, name in ((0, "a"), (255, "tower"), (7, "abcdefghijklmnop")):
            lines = [("plate", 0, 0, 0, 0, colour), ("plate", 0, 0, 1, 2, 255 - colour)]
            self.assertEqual(sizes(c, given(build(*lines, name=name))), [2, 8, 4, 1, 200, 2])

    def test_not_right(self):
        self.assertEqual(sizes_of(PLATES, ("plate", 63, 0, 0)), [-9])
        self.assertEqual(sizes_of(PLATES, ("plate", 0, 0, 0), ("plate", 1, 1, 0)), [-9])
        self.assertEqual(sizes_of(PLATES, ("plate", 0, 0, 0), ("smooth", 1, 1, 1)), [-9])


class Clutch(unittest.TestCase):
    def test_ordinary(self):
        lines = [("plate", 0, 0, 0), ("plate", 1, 1, 1), ("plate", 1, 0, 2)]
        rows = [[clutch_of(i, j, PLATES, *lines) for j in range(3)] for i in range(3)]
        self.assertEqual(rows, [[[0], [1], [0]], [[0], [0], [2]], [[0], [0], [0]]])

    def test_of_i_and_j_and_of_j_and_i(self):
        lines = [("plate", 0, 0, 1), ("plate", 0, 0, 0)]
        self.assertEqual(clutch_of(0, 1, PLATES, *lines), [0])
        self.assertEqual(clutch_of(1, 0, PLATES, *lines), [4])

    def test_both_ways_round(self):
        lines = [("arms", 0, 0, 0), ("core", 1, 0, 1)]
        self.assertEqual([clutch_of(0, 1, PLATES, *lines), clutch_of(1, 0, PLATES, *lines)], [[1], [1]])
        # Only the lower arm reaches it, then only the upper one.
        catalogue = PLATES + part("stub", "b")
        for z, wanted in ((1, [[1], [0]]), (2, [[0], [1]])):
            lines = [("arms", 0, 0, 0), ("stub", 1, 0, z)]
            self.assertEqual([clutch_of(0, 1, catalogue, *lines), clutch_of(1, 0, catalogue, *lines)], wanted)

    def test_of_i_and_i(self):
        self.assertEqual(clutch_of(0, 0, PLATES, ("plate", 0, 0, 0)), [0])
        # Its stud is below its own tube, with two places between.
        self.assertEqual(clutch_of(0, 0, PLATES, ("arms", 0, 0, 0)), [0])
        lines = [("arms", 0, 0, 0), ("core", 1, 0, 1)]
        self.assertEqual([clutch_of(k, k, PLATES, *lines) for k in (0, 1)], [[0], [0]])

    def test_far_apart_and_just_not_touching(self):
        for place in ((62, 62, 95), (2, 0, 1), (0, 2, 1), (2, 2, 1), (2, 0, 0), (0, 0, 2), (0, 0, 95)):
            lines = [("plate", 0, 0, 0), ("plate",) + place]
            self.assertEqual([clutch_of(0, 1, PLATES, *lines), clutch_of(1, 0, PLATES, *lines)], [[0], [0]])

    def test_each_kind_of_cell_above_each(self):
        for low, high in product(("bare", "both", "stud", "tube"), repeat=2):
            lines = [(low, 5, 5, 5), (high, 5, 5, 6)]
            stud, tube = low in ("both", "stud"), high in ("both", "tube")
            wanted = [-9] if stud and not tube else [int(stud and tube)]
            self.assertEqual(clutch_of(0, 1, CELLS, *lines), wanted)
            self.assertEqual(clutch_of(1, 0, CELLS, *lines), [min(0, wanted[0])])

    def test_turned(self):
        # Three studs in a row; turned once and three times they run along y.
        catalogue = part("cap", "tt t.") + part("row", "sss")
        lies = {0: [(0, 0), (1, 0), (2, 0)], 1: [(0, 0), (0, 1), (0, 2)]}
        caps = [{(0, 0), (1, 0), (0, 1)}, {(0, 1), (0, 0), (1, 1)}, {(1, 1), (0, 1), (1, 0)}, {(1, 0), (1, 1), (0, 0)}]
        for turns, cap, x, y in product(range(4), range(4), range(-1, 4), range(-1, 4)):
            above = {(x + p, y + q) for p, q in caps[cap]}
            wanted = len(above & set(lies[turns % 2]))
            lines = [("row", 10, 10, 3, turns), ("cap", 10 + x, 10 + y, 4, cap)]
            self.assertEqual(clutch_of(0, 1, catalogue, *lines), [wanted], lines)

    def test_no_such_line(self):
        lines = [("plate", 0, 0, 0), ("plate", 0, 0, 1)]
        for bad in (2, 3, 255, 256, 257, 2 ** 32, 2 ** 64, 10 ** 30 - 1, 10 ** 30):
            for good in (0, 1):
                self.assertEqual(clutch_of(bad, good, PLATES, *lines), [-4])
                self.assertEqual(clutch_of(good, bad, PLATES, *lines), [-4])
            self.assertEqual(clutch_of(bad, bad, PLATES, *lines), [-4])
            self.assertEqual(clutch_of(bad, 10 ** 30, PLATES, *lines), [-4])
        self.assertEqual(clutch_of(0, 0, PLATES), [-4])

    def test_the_last_of_256(self):
        lines = [("plate", 2 * (k % 16), 2 * (k // 64), k // 16 % 4) for k in range(256)]
        self.assertEqual(clutch_of(239, 255, PLATES, *lines), [4])
        self.assertEqual(clutch_of(255, 239, PLATES, *lines), [0])
        self.assertEqual(clutch_of(255, 256, PLATES, *lines), [-4])
        self.assertEqual(clutch_of(256, 255, PLATES, *lines), [-4])

    def test_not_right(self):
        lines = [("plate", 0, 0, 0), ("plate", 0, 0, 1), ("plate", 1, 1, 1)]
        for i, j in product((0, 1, 2, 3, 10 ** 30), repeat=2):
            self.assertEqual(clutch_of(i, j, PLATES, *lines), [-9])


class Group(unittest.TestCase):
    def test_ordinary(self):
        lines = [("plate", 8, 8, 0), ("plate", 0, 0, 0), ("plate", 1, 1, 1), ("plate", 9, 8, 1)]
        self.assertEqual(groups_of(PLATES, *lines), [0, 1, 1, 0])

    def test_a_line_by_itself(self):
        self.assertEqual(groups_of(PLATES, ("plate", 0, 0, 0)), [0])
        self.assertEqual(groups_of(PLATES, ("plate", 0, 0, 0), ("plate", 8, 0, 0), ("plate", 4, 0, 9)), [0, 1, 2])
        # It stands between the lines of another group.
        self.assertEqual(groups_of(PLATES, ("plate", 0, 0, 0), ("plate", 8, 0, 0), ("plate", 0, 0, 1)), [0, 1, 0])

    def test_touching_is_no_holding_on(self):
        for place in ((2, 0, 0), (0, 2, 0), (2, 2, 0), (2, 2, 1), (0, 0, 2)):
            self.assertEqual(groups_of(PLATES, ("plate", 0, 0, 0), ("plate",) + place), [0, 1])
        self.assertEqual(groups_of(PLATES, ("smooth", 0, 0, 0), ("smooth", 0, 0, 1)), [0, 1])
        self.assertEqual(groups_of(PLATES, ("smooth", 0, 0, 0), ("plate", 0, 0, 1)), [0, 1])

    def test_held_from_above_or_from_below(self):
        lines = [("plate", 0, 0, 0), ("plate", 1, 1, 1)]
        self.assertEqual(groups_of(PLATES, *lines), [0, 0])
        self.assertEqual(groups_of(PLATES, *lines[::-1]), [0, 0])
        lines = [("arms", 0, 0, 0), ("core", 1, 0, 1)]
        self.assertEqual(groups_of(PLATES, *lines), [0, 0])
        self.assertEqual(groups_of(PLATES, *lines[::-1]), [0, 0])

    def test_first_and_last_line_of_a_group(self):
        tower = [("plate", 0, 0, z) for z in range(6)]
        for lines in (tower, tower[::-1], tower[::2] + tower[1::2], tower[1::2] + tower[::2]):
            self.assertEqual(groups_of(PLATES, ("plate", 9, 9, 0), *lines, ("plate", 20, 9, 0)), [0] + [1] * 6 + [7])

    def test_together_only_by_a_later_line(self):
        feet = [("plate", 2 * k, 0, 0) for k in range(4)]
        self.assertEqual(groups_of(PLATES, *feet), [0, 1, 2, 3])
        self.assertEqual(groups_of(PLATES, *feet, ("plate", 5, 0, 1)), [0, 1, 2, 2, 2])
        self.assertEqual(groups_of(PLATES, *feet, ("plate", 5, 0, 1), ("plate", 1, 0, 1)), [0, 0, 2, 2, 2, 0])
        caps = [("plate", 5, 0, 1), ("plate", 1, 0, 1), ("plate", 3, 0, 1)]
        self.assertEqual(groups_of(PLATES, *feet, *caps), [0] * 7)
        for order in permutations(caps):
            self.assertEqual(groups_of(PLATES, *order, *feet[::-1]), [0] * 7)

    def test_no_such_line(self):
        c = given(PLATES)
        b = given(build(("plate", 0, 0, 0), ("plate", 0, 0, 1)))
        self.assertEqual([group(0, c, b), group(1, c, b)], [[0], [0]])
        for i in (2, 3, 255, 256, 2 ** 32, 2 ** 64, 10 ** 30 - 1, 10 ** 30):
            self.assertEqual(group(i, c, b), [-4])
        self.assertEqual(group(0, c, given("build a\n")), [-4])

    def test_not_right(self):
        b = given(build(("plate", 0, 0, 0), ("plate", 0, 0, 1), ("plate", 1, 1, 1)))
        for i in (0, 1, 2, 3, 10 ** 30):
            self.assertEqual(group(i, given(PLATES), b), [-9])


class AgainstTheWords(unittest.TestCase):
    BUILDS = grown_builds(7, 60)

    def test_the_builds_are_right_and_of_many_sorts(self):
        told = [sizes_of(SHAPED, *lines) for lines in self.BUILDS]
        self.assertEqual({check(given(SHAPED), given(build(*lines)))[0] for lines in self.BUILDS}, {0})
        self.assertGreater(sum(numbers[2] for numbers in told), 200)
        self.assertGreater(sum(numbers[0] - numbers[3] for numbers in told), 100)
        self.assertGreater(sum(1 < numbers[3] < numbers[0] for numbers in told), 20)

    def test_sizes(self):
        for lines in self.BUILDS:
            self.assertEqual(sizes_of(SHAPED, *lines), slow_sizes(SHAPES, WEIGHTS, lines), lines)

    def test_clutch_of_each_and_each(self):
        for lines in self.BUILDS[:20]:
            rows = slow_clutches(SHAPES, lines)
            for i, j in product(range(len(lines)), repeat=2):
                self.assertEqual(clutch_of(i, j, SHAPED, *lines), [rows[i][j]], (i, j, lines))

    def test_group_of_each(self):
        for lines in self.BUILDS:
            self.assertEqual(groups_of(SHAPED, *lines), slow_groups(SHAPES, lines), lines)

    def test_groups_part_the_lines(self):
        for lines in self.BUILDS[30:45]:
            least = groups_of(SHAPED, *lines)
            for i, first in enumerate(least):
                self.assertLessEqual(first, i)
                self.assertEqual(least[first], first)
            self.assertEqual(len(set(least)), sizes_of(SHAPED, *lines)[3])
            for i, j in product(range(len(lines)), repeat=2):
                if least[i] != least[j]:
                    self.assertEqual(clutch_of(i, j, SHAPED, *lines), [0])

    def test_studs_in_tubes_are_all_clutches_together(self):
        for lines in self.BUILDS[20:30]:
            told = [clutch_of(i, j, SHAPED, *lines)[0] for i, j in product(range(len(lines)), repeat=2)]
            self.assertEqual(sum(told), sizes_of(SHAPED, *lines)[2])

    def test_the_order_of_the_lines_is_nothing_to_sizes(self):
        for lines in self.BUILDS:
            self.assertEqual(sizes_of(SHAPED, *lines[::-1]), sizes_of(SHAPED, *lines))

    def test_lines_are_as_they_are_written(self):
        for lines in self.BUILDS[:5]:
            names = sorted(SHAPES)
            told = [line(k, given(SHAPED), given(build(*lines))) for k in range(len(lines))]
            wanted = [[names.index(put[0]), put[5], put[1], put[2], put[3], put[4]] for put in lines]
            self.assertEqual(told, wanted)


if __name__ == "__main__":
    unittest.main()
