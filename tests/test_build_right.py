"""The build's rightness: each of its three rules by itself, which is told first, and parts turned."""

import random
import unittest
from itertools import product

from brickrooms.builds import check, judge
from tests.making import ANGLE, ANGLE_TURNED, CELLS, box, build, given, part, slow_cells, slow_check


def answer(catalogue, *lines):
    return check(given(catalogue), given(build(*lines)))


class BeyondTheRoom(unittest.TestCase):
    def test_ordinary(self):
        catalogue = box("a", 4, 2, 3)
        self.assertEqual(answer(catalogue), [0])
        self.assertEqual(answer(catalogue, ("a", 5, 6, 7)), [0])

    def test_each_side_of_the_room(self):
        catalogue = box("a", 4, 2, 3)
        for x, y, z in product((59, 60, 61, 63), (61, 62, 63), (92, 93, 94, 95)):
            wanted = [0] if x <= 60 and y <= 62 and z <= 93 else [-9, 1, 0, 0]
            self.assertEqual(answer(catalogue, ("a", x, y, z)), wanted, (x, y, z))
            self.assertEqual(answer(catalogue, ("a", x, y, z, 2)), wanted, (x, y, z))

    def test_turned_it_is_as_wide_as_it_was_deep(self):
        catalogue = box("a", 4, 2, 3)
        for x, y, turns in product((59, 60, 61, 62, 63), (59, 60, 61, 62, 63), (1, 3)):
            wanted = [0] if x <= 62 and y <= 60 else [-9, 1, 0, 0]
            self.assertEqual(answer(catalogue, ("a", x, y, 0, turns)), wanted, (x, y, turns))

    def test_the_last_place(self):
        self.assertEqual(answer(CELLS, ("bare", 63, 63, 95)), [0])
        self.assertEqual(answer(CELLS, ("both", 63, 63, 95)), [0])

    def test_places_without_a_cell_count(self):
        # The corner that is beyond the room has no cell.
        self.assertEqual(answer(part("a", "## #."), ("a", 62, 62, 0)), [0])
        for x, y in ((63, 62), (62, 63), (63, 63)):
            self.assertEqual(answer(part("a", "## #."), ("a", x, y, 0)), [-9, 1, 0, 0])
        self.assertEqual(answer(part("a", "##", "#."), ("a", 63, 0, 0)), [-9, 1, 0, 0])

    def test_i_is_j(self):
        catalogue = box("a", 2, 2, 2)
        self.assertEqual(answer(catalogue, ("a", 0, 0, 0), ("a", 4, 0, 0), ("a", 63, 0, 0)), [-9, 1, 2, 2])


class CellsAtOnePlace(unittest.TestCase):
    def test_ordinary(self):
        catalogue = box("a", 2, 2, 2)
        self.assertEqual(answer(catalogue, ("a", 0, 0, 0), ("a", 2, 0, 0), ("a", 0, 2, 0), ("a", 0, 0, 2)), [0])
        for x, y, z in product((0, 1, 2), repeat=3):
            wanted = [0] if 2 in (x, y, z) else [-9, 2, 1, 0]
            self.assertEqual(answer(catalogue, ("a", 0, 0, 0), ("a", x, y, z)), wanted)
            self.assertEqual(answer(catalogue, ("a", x, y, z), ("a", 0, 0, 0)), wanted)

    def test_places_without_a_cell_may_be_shared(self):
        catalogue = part("a", "## #.") + box("b", 1, 1, 1)
        self.assertEqual(answer(catalogue, ("a", 5, 5, 0), ("b", 6, 6, 0)), [0])
        self.assertEqual(answer(catalogue, ("b", 6, 6, 0), ("a", 5, 5, 0)), [0])
        # The other part's corner is where this one has no cell; a place further on both have one.
        self.assertEqual(answer(catalogue, ("a", 5, 5, 0), ("a", 6, 6, 0)), [0])
        self.assertEqual(answer(catalogue, ("a", 5, 5, 0), ("a", 6, 5, 0)), [-9, 2, 1, 0])
        self.assertEqual(answer(catalogue, ("a", 5, 5, 0), ("a", 5, 5, 0, 2)), [-9, 2, 1, 0])

    def test_the_same_line_twice(self):
        self.assertEqual(answer(CELLS, ("both", 3, 3, 3), ("both", 3, 3, 3)), [-9, 2, 1, 0])

    def test_the_least_line_before(self):
        catalogue = box("a", 1, 1, 1) + box("wide", 3, 1, 1)
        for first, second, third in ((0, 1, 2), (2, 1, 0), (1, 2, 0), (2, 0, 1)):
            lines = [("a", 9, 9, 9), ("a", first, 0, 0), ("a", second, 0, 0), ("a", third, 0, 0), ("wide", 0, 0, 0)]
            self.assertEqual(answer(catalogue, *lines), [-9, 2, 4, 1])


class StudsAndTubes(unittest.TestCase):
    def test_what_may_be_above_a_stud(self):
        for low, high in product(("bare", "both", "stud", "tube"), repeat=2):
            wanted = [-9, 3, 1, 0] if low in ("both", "stud") and high in ("bare", "stud") else [0]
            self.assertEqual(answer(CELLS, (low, 5, 5, 5), (high, 5, 5, 6)), wanted, (low, high))
            self.assertEqual(answer(CELLS, (high, 5, 5, 6), (low, 5, 5, 5)), wanted, (low, high))

    def test_just_above_alone_counts(self):
        for x, y, z in product((4, 5, 6), (4, 5, 6), (4, 5, 6, 7)):
            if (x, y, z) != (5, 5, 5):
                wanted = [-9, 3, 1, 0] if (x, y) == (5, 5) and z in (4, 6) else [0]
                self.assertEqual(answer(CELLS, ("stud", 5, 5, 5), ("stud", x, y, z)), wanted, (x, y, z))

    def test_a_free_stud_at_the_room_s_top(self):
        self.assertEqual(answer(CELLS, ("stud", 5, 5, 95), ("stud", 5, 5, 0)), [0])

    def test_one_blocked_stud_among_many(self):
        plate = box("plate", 4, 4, 1, "b")
        tile = part("q", "tttt tttt tt#t tttt") + part("r", "tttt tttt tttt tttt")
        self.assertEqual(answer(plate + tile, ("plate", 0, 0, 0), ("r", 0, 0, 1)), [0])
        self.assertEqual(answer(plate + tile, ("plate", 0, 0, 0), ("q", 0, 0, 1)), [-9, 3, 1, 0])
        self.assertEqual(answer(plate + tile, ("q", 0, 0, 1), ("plate", 0, 0, 0)), [-9, 3, 1, 0])
        self.assertEqual(answer(plate + tile, ("plate", 0, 0, 0), ("q", 1, 1, 1)), [-9, 3, 1, 0])
        # Moved on, its one cell without a tube is beside the plate.
        self.assertEqual(answer(plate + tile, ("plate", 0, 0, 0), ("q", 1, 2, 1)), [0])
        self.assertEqual(answer(plate + tile, ("plate", 0, 0, 0), ("q", 2, 0, 1)), [0])

    def test_the_least_line_before(self):
        catalogue = CELLS + part("wide", "###")
        for order in ((0, 1, 2), (2, 1, 0), (1, 2, 0)):
            lines = [("stud", 9, 9, 9)] + [("stud", x, 0, 4) for x in order] + [("wide", 0, 0, 5)]
            self.assertEqual(answer(catalogue, *lines), [-9, 3, 4, 1])
        # A blocked stud of the later line's own, and one of an earlier line's: the least line all the same.
        catalogue = CELLS + part("wide", "###", "#.s")
        for first, second in ((("stud", 0, 0, 3), ("bare", 2, 0, 6)), (("bare", 2, 0, 6), ("stud", 0, 0, 3))):
            self.assertEqual(answer(catalogue, ("bare", 9, 9, 9), first, second, ("wide", 0, 0, 4)), [-9, 3, 3, 1])

    def test_studs_and_tubes_turn_with_the_part(self):
        # One stud at (2, 0), probed from above by a cell without a tube.
        catalogue = part("a", "##s #..") + box("b", 1, 1, 1)
        for turns, where in ((0, (2, 0)), (1, (0, 0)), (2, (0, 1)), (3, (1, 2))):
            for x, y in product(range(3), repeat=2):
                wanted = [-9, 3, 1, 0] if (x, y) == where else [0]
                self.assertEqual(answer(catalogue, ("a", 7, 8, 9, turns), ("b", 7 + x, 8 + y, 10)), wanted)

    def test_nothing_is_asked_of_a_tube(self):
        self.assertEqual(answer(CELLS, ("tube", 0, 0, 5)), [0])
        self.assertEqual(answer(CELLS, ("bare", 0, 0, 4), ("tube", 0, 0, 5)), [0])


class Turned(unittest.TestCase):
    def test_cells_by_hand(self):
        catalogue = ANGLE + box("b", 1, 1, 1)
        for turns, cells in enumerate(ANGLE_TURNED):
            for x, y in product(range(-1, 4), repeat=2):
                wanted = [-9, 2, 1, 0] if (x, y) in cells else [0]
                self.assertEqual(answer(catalogue, ("a", 20, 30, 0, turns), ("b", 20 + x, 30 + y, 0)), wanted)

    def test_cells_of_a_part_of_several_layers(self):
        layers = ("### #.. #..", "#.. #.. ###", "... s.. ...")
        catalogue = part("a", *layers) + box("b", 1, 1, 1, "t")
        for turns in range(4):
            cells = slow_cells(layers, turns)[1]
            for place in product(range(3), repeat=3):
                wanted = [-9, 2, 1, 0] if place in cells else [0]
                put = ("b",) + tuple(place[k] + 4 for k in range(3))
                self.assertEqual(answer(catalogue, ("a", 4, 4, 4, turns), put), wanted, (turns, place))


class WhichIsTold(unittest.TestCase):
    def test_the_first_line_before_the_lesser_rule(self):
        catalogue = CELLS + box("two", 2, 1, 1)
        blocked = [("stud", 0, 0, 0), ("bare", 0, 0, 1)]
        shared = [("bare", 9, 0, 0), ("bare", 9, 0, 0)]
        beyond = [("two", 63, 0, 0)]
        self.assertEqual(answer(catalogue, *blocked, *shared, *beyond), [-9, 3, 1, 0])
        self.assertEqual(answer(catalogue, *shared, *blocked, *beyond), [-9, 2, 1, 0])
        self.assertEqual(answer(catalogue, *beyond, *shared, *blocked), [-9, 1, 0, 0])
        self.assertEqual(answer(catalogue, *blocked, *beyond, *shared), [-9, 3, 1, 0])

    def test_the_lesser_rule_of_one_line(self):
        # The last line is beyond the room, shares a place with line 1, and blocks line 0's stud.
        catalogue = CELLS + box("two", 2, 1, 1)
        self.assertEqual(answer(catalogue, ("stud", 63, 0, 4), ("tube", 63, 0, 5), ("two", 63, 0, 5)), [-9, 1, 2, 2])
        # Rule 2 with line 1 goes ahead of rule 3 with line 0.
        lines = [("stud", 20, 0, 4), ("bare", 21, 0, 5), ("two", 20, 0, 5)]
        self.assertEqual(answer(catalogue, *lines), [-9, 2, 2, 1])

    def test_judge_counts_lines_right_or_not(self):
        catalogue = CELLS + box("two", 2, 1, 1)
        for lines in ([("two", 63, 0, 0)], [("bare", 0, 0, 0)] * 5, [("stud", 0, 0, 0), ("bare", 0, 0, 1)]):
            self.assertEqual(judge(given(catalogue), given(build(*lines))), [len(lines)])


class AgainstTheWords(unittest.TestCase):
    SHAPES = {
        "bb": ("bb",),
        "ell": ("b# b.",),
        "lid": ("tt tt", "## #."),
        "nub": ("s",),
        "step": ("##", "#.", "s."),
        "tall": ("t.. t##", "#.. ...", "##s s.."),
        "tile": ("tt tt tt",),
    }
    CATALOGUE = "".join(part(name, *layers) for name, layers in sorted(SHAPES.items()))

    def lines(self, source, corner, width, count):
        names = sorted(self.SHAPES)
        return [(source.choice(names), corner[0] + source.randrange(width), corner[1] + source.randrange(width),
                 corner[2] + source.randrange(width), source.randrange(4)) for k in range(count)]

    def test_the_catalogue_is_right(self):
        self.assertEqual(answer(self.CATALOGUE), [0])

    def test_random_builds(self):
        source = random.Random(5)
        seen = {}
        for count in range(3000):
            corner = source.choice([(0, 0, 0), (58, 58, 90), (30, 57, 3)])
            lines = self.lines(source, corner, source.choice([2, 4, 6]), source.randrange(2, 9))
            wanted = slow_check(self.SHAPES, lines)
            seen[tuple(wanted[:2])] = seen.get(tuple(wanted[:2]), 0) + 1
            self.assertEqual(answer(self.CATALOGUE, *lines), wanted, lines)
        self.assertEqual(sorted(seen), [(-9, 1), (-9, 2), (-9, 3), (0,)])
        self.assertGreater(min(seen.values()), 100)

    def grown(self, source, count):
        """Lines of which each was kept only because check told the build right with it."""
        kept = []
        for k in range(count):
            tried = kept + self.lines(source, (10, 10, 0), 7, 1)
            if answer(self.CATALOGUE, *tried) == [0]:
                kept = tried
        return kept

    def test_what_a_right_build_is(self):
        source = random.Random(6)
        clutched = 0
        for count in range(12):
            at = {}
            for word, x, y, z, turns in self.grown(source, 150):
                for place, sign in slow_cells(self.SHAPES[word], turns)[1].items():
                    here = (x + place[0], y + place[1], z + place[2])
                    self.assertNotIn(here, at)
                    at[here] = sign
            for (x, y, z), sign in at.items():
                if sign in "sb":
                    self.assertIn(at.get((x, y, z + 1), "t"), "tb")
                    clutched += (x, y, z + 1) in at
        self.assertGreater(clutched, 20)


if __name__ == "__main__":
    unittest.main()
