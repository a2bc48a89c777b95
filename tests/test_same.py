"""Whether two builds are the same, and by how many turns at least."""

import random
import unittest
from itertools import permutations, product

from brickrooms.builds import check, moved, plain, same, turned
from tests.making import (ANGLE, BLANK_BUILD, CELLS, SHAPED, SHAPES, box, build, given, grown_builds, part, shifted,
                          slow_same, slow_turned)

BUILDS = [lines for lines in grown_builds(13, 50) if lines]
GOOD = "build a\nput bare 0 0 0 0 0\n"
CLASHING = "build a\nput bare 0 0 0 0 0\nput bare 0 0 0 0 0\n"
TOO_LONG = GOOD + "x" * (16385 - len(GOOD))


def same_of(catalogue, first, second):
    return same(given(catalogue), given(build(*first)), given(build(*second)))


def rounds_of(c, b):
    """How many turns take the build to itself: 1, 2 or 4."""
    for turns in (1, 2):
        if plain(c, turned(turns, c, b)[1:]) == plain(c, b):
            return turns
    return 4


class Same(unittest.TestCase):
    # A build that no turn takes to itself.
    LINES = [("a", 5, 6, 7, 1, 3), ("a", 20, 30, 8, 3, 4), ("a", 5, 6, 8, 0, 3)]

    def test_itself(self):
        self.assertEqual(same_of(ANGLE, self.LINES, self.LINES), [0])
        for put in self.LINES:
            self.assertEqual(same_of(ANGLE, [put], [put]), [0])

    def test_itself_moved(self):
        for way in ((1, 0, 0), (0, -1, 0), (0, 0, 1), (-5, -6, -7), (41, 31, 87)):
            self.assertEqual(same_of(ANGLE, self.LINES, shifted(self.LINES, way)), [0])
            self.assertEqual(same_of(ANGLE, shifted(self.LINES, way), self.LINES), [0])

    def test_itself_turned(self):
        for r in range(4):
            after = slow_turned({"a": ("### #..",)}, self.LINES, r)
            self.assertEqual(same_of(ANGLE, self.LINES, after), [r])
            self.assertEqual(same_of(ANGLE, after, self.LINES), [(4 - r) % 4])
            self.assertEqual(same_of(ANGLE, self.LINES, shifted(after, (9, 8, 7))), [r])

    def test_turned_by_hand(self):
        # Clockwise from above: what was to the right comes to the front, where y is 0.
        catalogue = CELLS
        first = [("bare", 0, 0, 0, 0, 1), ("bare", 1, 0, 0, 0, 2)]
        around = [[(0, 0), (1, 0)], [(0, 1), (0, 0)], [(1, 0), (0, 0)], [(0, 0), (0, 1)]]
        for r, (one, other) in enumerate(around):
            second = [("bare", *one, 0, 0, 1), ("bare", *other, 0, 0, 2)]
            self.assertEqual(same_of(catalogue, first, second), [r])

    def test_lines_in_another_order(self):
        for order in permutations(self.LINES):
            self.assertEqual(same_of(ANGLE, self.LINES, order), [0])
            for r in (1, 2, 3):
                after = slow_turned({"a": ("### #..",)}, order, r)
                self.assertEqual(same_of(ANGLE, self.LINES, after), [r])

    def test_the_least_r_of_several(self):
        # Four alike around a middle: each turn takes it to itself, and the least is told.
        ring = [("bare", 0, 0, 0), ("bare", 1, 0, 0), ("bare", 0, 1, 0), ("bare", 1, 1, 0)]
        self.assertEqual(same_of(CELLS, ring, ring[::-1]), [0])
        for r, turns in product(range(4), repeat=2):
            after = slow_turned({"bare": ("#",)}, [put + (turns,) for put in ring], r)
            self.assertEqual(same_of(CELLS, ring, after), [0])
        # Two alike across a middle: turned by 1 and by 3, the least is 1.
        row = [("bare", 0, 0, 0), ("bare", 1, 0, 0)]
        column = [("bare", 0, 0, 0), ("bare", 0, 1, 0)]
        self.assertEqual([same_of(CELLS, row, row), same_of(CELLS, column, column)], [[0], [0]])
        self.assertEqual([same_of(CELLS, row, column), same_of(CELLS, column, row)], [[1], [1]])

    def test_the_least_r_of_one_part(self):
        for layers, rounds in ((("## ##",), 1), (("###",), 2), (("#s s#",), 2), (("s#",), 4), (("### #..",), 4),
                               (("## ##", "#. .."), 4), (("tt tt", "#. .#"), 2), (("#.## ###. .### ##.#",), 1)):
            for first, second in product(range(4), repeat=2):
                answer = same_of(part("a", *layers), [("a", 3, 4, 5, first)], [("a", 6, 7, 8, second)])
                self.assertEqual(answer, [(second - first) % rounds], layers)

    def test_parts_alike_but_the_build_not(self):
        # The parts are the same whichever way they are turned; where they stand is not.
        lines = [("bare", 0, 0, 0, 1), ("bare", 5, 0, 0, 2), ("bare", 0, 2, 0, 3)]
        for r in range(4):
            after = slow_turned({"bare": ("#",)}, lines, r)
            for turns in range(4):
                again = [put[:4] + (turns,) for put in after]
                self.assertEqual(same_of(CELLS, lines, again), [r])

    def test_the_build_alike_but_the_parts_not(self):
        # A ring of four; one of the parts lies otherwise than the turn has it.
        around = [("a", 0, 0, 0, 0), ("a", 0, 5, 0, 1), ("a", 5, 5, 0, 2), ("a", 5, 0, 0, 3)]
        catalogue = part("a", "s# ##")
        self.assertEqual(same_of(catalogue, around, around), [0])
        self.assertEqual(same_of(catalogue, around, slow_turned({"a": ("s# ##",)}, around, 1)), [0])
        one_off = around[:3] + [("a", 5, 0, 0, 2)]
        self.assertEqual(same_of(catalogue, around, one_off), [-3])
        for r in range(4):
            self.assertEqual(same_of(catalogue, one_off, slow_turned({"a": ("s# ##",)}, one_off, r)), [r])

    def test_no_mirror(self):
        first = [("bare", 0, 0, 0, 0, 1), ("bare", 1, 0, 0, 0, 2), ("bare", 0, 1, 0, 0, 3)]
        mirrored = [("bare", 0, 0, 0, 0, 1), ("bare", 1, 0, 0, 0, 3), ("bare", 0, 1, 0, 0, 2)]
        self.assertEqual(same_of(CELLS, first, mirrored), [-3])
        upside_down = [("bare", x, y, 1 - z, 0, z) for x, y, z in product(range(2), repeat=3)]
        upright = [("bare", x, y, z, 0, z) for x, y, z in product(range(2), repeat=3)]
        self.assertEqual(same_of(CELLS, upright, upside_down), [-3])

    def test_one_colour_differs(self):
        for k in range(3):
            for colour in (0, 5, 255):
                other = list(self.LINES)
                other[k] = other[k][:5] + (colour,)
                self.assertEqual(same_of(ANGLE, self.LINES, other), [-3])
                self.assertEqual(same_of(ANGLE, other, self.LINES), [-3])

    def test_colours_changed_about(self):
        first = [("bare", 0, 0, 0, 0, 1), ("bare", 3, 0, 0, 0, 1), ("bare", 9, 0, 0, 0, 2)]
        second = [("bare", 0, 0, 0, 0, 1), ("bare", 3, 0, 0, 0, 2), ("bare", 9, 0, 0, 0, 1)]
        self.assertEqual(same_of(CELLS, first, second), [-3])
        self.assertEqual(same_of(CELLS, first[:2], [first[0], second[1]]), [-3])

    def test_one_part_differs(self):
        for first, second in permutations(("bare", "both", "stud", "tube"), 2):
            self.assertEqual(same_of(CELLS, [(first, 0, 0, 0)], [(second, 0, 0, 0)]), [-3])
            beside = [(first, 0, 0, 0), (first, 5, 0, 0)]
            self.assertEqual(same_of(CELLS, beside, [beside[0], (second, 5, 0, 0)]), [-3])

    def test_two_parts_of_the_same_cells_are_two(self):
        catalogue = box("a", 2, 2, 1) + box("b", 2, 2, 1)
        self.assertEqual(same_of(catalogue, [("a", 0, 0, 0)], [("b", 0, 0, 0)]), [-3])
        first = [("a", 0, 0, 0), ("b", 2, 0, 0)]
        second = [("b", 0, 0, 0), ("a", 2, 0, 0)]
        self.assertEqual([same_of(catalogue, first, first), same_of(catalogue, first, second)], [[0], [2]])
        # Two parts that would be one and the same if one were turned.
        catalogue = part("a", "##") + part("b", "# #")
        for first, second in product(range(4), repeat=2):
            self.assertEqual(same_of(catalogue, [("a", 0, 0, 0, first)], [("b", 0, 0, 0, second)]), [-3])

    def test_one_place_differs(self):
        for k in range(3):
            for way in ((1, 0, 0), (0, 1, 0), (0, 0, 1), (0, -1, 0)):
                other = list(self.LINES)
                other[k] = shifted([other[k]], way)[0]
                if check(given(ANGLE), given(build(*other))) == [0]:
                    self.assertEqual(same_of(ANGLE, self.LINES, other), [-3], (k, way))

    def test_the_turns_of_one_differ(self):
        for k, turns in product(range(3), range(4)):
            other = list(self.LINES)
            other[k] = other[k][:4] + (turns, other[k][5])
            wanted = [0] if other == self.LINES else [-3]
            if check(given(ANGLE), given(build(*other))) == [0]:
                self.assertEqual(same_of(ANGLE, self.LINES, other), wanted, (k, turns))

    def test_the_number_of_lines_differs(self):
        for k in range(3):
            fewer = self.LINES[:k] + self.LINES[k + 1:]
            self.assertEqual(same_of(ANGLE, self.LINES, fewer), [-3])
            self.assertEqual(same_of(ANGLE, fewer, self.LINES), [-3])
        self.assertEqual(same_of(ANGLE, self.LINES, []), [-3])
        self.assertEqual(same_of(ANGLE, [], self.LINES), [-3])
        # What one has more stands in front, amid and behind in the plain order.
        row = [("bare", x, 0, 0) for x in range(5)]
        for k in range(5):
            self.assertEqual(same_of(CELLS, row, row[:k] + row[k + 1:]), [-3])
            self.assertEqual(same_of(CELLS, row[:k] + row[k + 1:], row), [-3])

    def test_no_lines(self):
        self.assertEqual(same_of(CELLS, [], []), [0])
        self.assertEqual(same(given(CELLS), given("build a\n"), given("build zz9\n")), [0])

    def test_names_aside(self):
        c = given(ANGLE)
        for first, second in product(("a", "b", "abcdefghijklmnop"), repeat=2):
            b = given(build(*self.LINES, name=first))
            for r in range(4):
                d = given(build(*slow_turned({"a": ("### #..",)}, self.LINES, r), name=second))
                self.assertEqual(same(c, b, d), [r])

    def test_the_far_corners_of_the_room(self):
        lines = [("bare", x, y, z, 0, k) for k, (x, y, z) in enumerate(product((0, 63), (0, 63), (0, 95)))]
        for r in range(4):
            self.assertEqual(same_of(CELLS, lines, slow_turned({"bare": ("#",)}, lines, r)), [r])
        self.assertEqual(same_of(CELLS, lines[:1], shifted(lines[:1], (63, 63, 95))), [0])


class Refused(unittest.TestCase):
    BUILDS = {TOO_LONG: -2, "no build": -5, "": -5, CLASHING + "put": -5, CLASHING: -9,
              "build a\nput stud 0 0 0 0 0\nput bare 0 0 0 1 0\n": -9, GOOD: 0, BLANK_BUILD: 0}

    def refusal(self, catalogue, first, second):
        return same(given(catalogue), given(first), given(second))

    def test_either_of_the_two_in_the_document_s_order(self):
        order = [-2, -5, -9, 0]
        for first, second in product(self.BUILDS, repeat=2):
            wanted = min(self.BUILDS[first], self.BUILDS[second], key=order.index)
            answer = self.refusal(CELLS, first, second)
            if wanted < 0:
                self.assertEqual(answer, [wanted], (first[:30], second[:30]))
            else:
                self.assertEqual(answer, [0] if first == second else [-3])

    def test_the_catalogue_ahead_of_the_builds_but_for_their_length(self):
        not_right = box("b", 1, 1, 1) + box("a", 1, 1, 1)
        for catalogue, wanted in (("part", [-6]), ("", [-6]), (not_right + "x", [-6]), (not_right, [-8])):
            for first, second in product(self.BUILDS, repeat=2):
                long = TOO_LONG in (first, second)
                self.assertEqual(self.refusal(catalogue, first, second), [-2] if long else wanted)

    def test_beyond_the_room(self):
        # Moved home, both would be right, and the same.
        catalogue = box("two", 2, 1, 1)
        good, bad = build(("two", 0, 0, 0)), build(("two", 63, 0, 0))
        self.assertEqual(self.refusal(catalogue, good, good), [0])
        for first, second in ((good, bad), (bad, good), (bad, bad)):
            self.assertEqual(self.refusal(catalogue, first, second), [-9])

    def test_the_length_of_either(self):
        for size, wanted in ((16383, [-5]), (16384, [-5]), (16385, [-2]), (17000, [-2])):
            text = "build a" + " " * (size - 7)
            self.assertEqual(self.refusal(CELLS, text, GOOD), wanted)
            self.assertEqual(self.refusal(CELLS, GOOD, text), wanted)
            self.assertEqual(self.refusal(CELLS, text, text), wanted)

    def test_the_length_of_c(self):
        self.assertEqual(self.refusal("x" * 1048577, GOOD, GOOD), [-2])
        self.assertEqual(self.refusal("x" * 1048576, GOOD, GOOD), [-6])

    def test_what_is_handed_in_is_as_it_was(self):
        for first, second in product(self.BUILDS, repeat=2):
            c, b, d = given(CELLS), given(first), given(second)
            answer = same(c, b, d)
            self.assertEqual((c, b, d), (given(CELLS), given(first), given(second)))
            self.assertEqual(same(c, b, d), answer)

    def test_one_list_for_both(self):
        b = given(GOOD)
        self.assertEqual(same(given(CELLS), b, b), [0])
        self.assertEqual(b, given(GOOD))


class GrownBuilds(unittest.TestCase):
    def test_against_the_words(self):
        seen = []
        source = random.Random(2)
        for k, lines in enumerate(BUILDS):
            other = slow_turned(SHAPES, lines, k % 4)
            source.shuffle(other)
            if k % 3 == 0:
                changed = source.randrange(len(other))
                other[changed] = other[changed][:5] + (source.randrange(256),)
            for first, second in ((lines, other), (other, lines), (lines, BUILDS[k - 1])):
                wanted = slow_same(SHAPES, first, second)
                seen.append(wanted[0])
                self.assertEqual(same_of(SHAPED, first, second), wanted, (first, second))
        self.assertEqual(set(seen), {-3, 0, 1, 2, 3})

    def test_small_builds_each_and_each(self):
        source = random.Random(4)
        small = [[("pin", x, y, 0, 0, 1) for x, y in source.sample(list(product(range(3), repeat=2)), 3)]
                 for k in range(18)]
        small += [[("ell", 0, 0, 0, source.randrange(4), 1), ("ell", 4, 0, 0, source.randrange(4), 1)]
                  for k in range(12)]
        small += [[("pin", 5, 5, 0, 0, 1), ("pin", x, y, 0, 0, 2)] for x, y in ((4, 5), (6, 5), (5, 4), (5, 6))]
        seen = []
        for first, second in product(small, repeat=2):
            wanted = slow_same(SHAPES, first, second)
            seen.append(wanted[0])
            self.assertEqual(same_of(SHAPED, first, second), wanted, (first, second))
        for answer in (-3, 0, 1, 2, 3):
            self.assertGreater(seen.count(answer), 5)

    def test_itself_moved_turned_and_in_another_order(self):
        c = given(SHAPED)
        source = random.Random(6)
        for k, lines in enumerate(BUILDS):
            b = given(build(*lines))
            mixed = list(lines)
            source.shuffle(mixed)
            d = turned(k % 4, c, given(build(*mixed)))[1:]
            far = moved(k % 5, k % 7, k % 3, c, d)[1:]
            rounds = rounds_of(c, b)
            for other in (d, far, plain(c, far)[1:]):
                self.assertEqual(same(c, b, other), [k % 4 % rounds])
                self.assertEqual(same(c, other, b), [-k % rounds])

    def test_mutual_and_from_build_to_build(self):
        c = given(SHAPED)
        small = [[("beam", 0, 0, 0, 0, 1)], [("pin", 0, 0, 0, 0, 1)], [("ell", 0, 0, 0, 0, 1)],
                 [("pin", 0, 0, 0, 0, 1), ("pin", 1, 0, 0, 0, 1)], [("pin", 0, 0, 0, 0, 1), ("pin", 1, 0, 0, 0, 2)]]
        texts = [turned(r, c, given(build(*lines)))[1:] for lines in small for r in range(4)]
        answers = {(i, j): same(c, texts[i], texts[j])[0] for i, j in product(range(len(texts)), repeat=2)}
        rounds = [rounds_of(c, text) for text in texts]
        self.assertEqual(set(rounds), {1, 2, 4})
        for (i, j), r in answers.items():
            self.assertEqual(answers[j, i], -3 if r == -3 else -r % rounds[i])
            for k in range(len(texts)):
                s = answers[j, k]
                if r >= 0 and s >= 0:
                    self.assertEqual(answers[i, k], (r + s) % rounds[i])
                elif r >= 0 or s >= 0:
                    self.assertEqual(answers[i, k], -3)

    def test_plain_texts_are_one_just_if_the_same_by_nought(self):
        c = given(SHAPED)
        texts = [given(build(*lines)) for lines in BUILDS[:12]]
        texts += [turned(r, c, texts[0])[1:] for r in range(4)] + [moved(0, 0, 0, c, texts[1])[1:]]
        for b, d in product(texts, repeat=2):
            self.assertEqual(plain(c, b) == plain(c, d), same(c, b, d) == [0])


if __name__ == "__main__":
    unittest.main()
