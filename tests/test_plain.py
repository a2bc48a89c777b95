"""Builds made plain: home, of each line the least turns, the lines in order."""

import random
import unittest
from itertools import permutations, product

from brickrooms.builds import check, clutch, group, judge, line, moved, plain, sizes, turned
from tests.making import (ANGLE, BLANK_BUILD, CELLS, NAMED, NAMES, SHAPED, SHAPES, box, build, given, grown_builds,
                          part, shifted, slow_plain, told)

BUILDS = grown_builds(11, 60)

# Turned twice it lies in the same box without touching itself: two lines of it may be at one place.
HALF = ("## ..", ".# .#")
HALVES = {"half": HALF, "other": HALF, "pin": ("#",)}
HALVED = "".join(part(name, *HALVES[name]) for name in sorted(HALVES))


def plain_of(catalogue, *lines):
    return plain(given(catalogue), given(build(*lines)))


def told_turns(*layers):
    """Of a line of this part, turned 0 to 3 times, the turns that are told when it is made plain."""
    catalogue = part("a", *layers)
    answers = [plain_of(catalogue, ("a", 7, 8, 9, turns)) for turns in range(4)]
    wanted = {tuple(told(build(("a", 0, 0, 0, turns)))): turns for turns in range(4)}
    return [wanted[tuple(answer)] for answer in answers]


class LeastTurns(unittest.TestCase):
    ONE = [0, 0, 0, 0]
    TWO = [0, 1, 0, 1]
    FOUR = [0, 1, 2, 3]

    def test_one_cell(self):
        for sign in "#stb":
            self.assertEqual(told_turns(sign), self.ONE)

    def test_alike_turned_by_1(self):
        for layers in (("## ##",), ("bb bb",), (".s. s#s .s.",), ("### #.# ###",), ("t##t #..# #..# t##t",)):
            self.assertEqual(told_turns(*layers), self.ONE, layers)
        # A wheel: no mirror takes it to itself, but each turn does.
        self.assertEqual(told_turns("#.## ###. .### ##.#"), self.ONE)
        self.assertEqual(told_turns("## ##", "ss ss"), self.ONE)

    def test_alike_turned_by_2_alone(self):
        for layers in (("##",), ("# #",), ("b b b",), ("s#s",), ("### ###",), ("##. .##",), ("#s s#",), ("t# #t",),
                       ("## ##", "#s s#"), ("t..t #### #### t..t",)):
            self.assertEqual(told_turns(*layers), self.TWO, layers)
        # As wide as deep.
        self.assertEqual(told_turns("#.# ### #.#"), self.TWO)

    def test_alike_turned_by_none(self):
        for layers in (("### #..",), ("## #.",), ("s#",), ("#t",), ("st",), ("sb",), ("# b",), ("ss s#",), ("#.# ###",),
                       ("ss ##",), ("## ##", "#. .."), ("##", "s."), ("##.", ".##")):
            self.assertEqual(told_turns(*layers), self.FOUR, layers)

    def test_a_stud_or_a_tube_makes_the_difference(self):
        self.assertEqual(told_turns("## ##"), self.ONE)
        for sign in "stb":
            self.assertEqual(told_turns(f"{sign}# ##"), self.FOUR)
            self.assertEqual(told_turns(f"{sign}# #{sign}"), self.TWO)
            self.assertEqual(told_turns(f"{sign}{sign} ##"), self.FOUR)
            self.assertEqual(told_turns(f"{sign}{sign} {sign}#"), self.FOUR)
            self.assertEqual(told_turns(f"{sign}{sign} {sign}{sign}"), self.ONE)
        for first, second in permutations("#stb", 2):
            self.assertEqual(told_turns(f"{first}{second} {second}{first}"), self.TWO)
            self.assertEqual(told_turns(f"{first}{second}"), self.FOUR)

    def test_the_last_layer_makes_the_difference(self):
        low = ["## ##"] * 17
        self.assertEqual(told_turns(*low, "## ##"), self.ONE)
        self.assertEqual(told_turns(*low, "#. .#"), self.TWO)
        self.assertEqual(told_turns(*low, "#. ##"), self.FOUR)
        self.assertEqual(told_turns(*low, "ss s#"), self.FOUR)
        self.assertEqual(told_turns("tt t#", *low), self.FOUR)

    def test_width_and_depth_that_differ(self):
        for width, depth in ((1, 2), (2, 1), (16, 1), (1, 16), (15, 16), (16, 15), (3, 7)):
            row = "#" * width
            self.assertEqual(told_turns(" ".join([row] * depth)), self.TWO)
            last = "s" + "#" * (width - 1)
            self.assertEqual(told_turns(" ".join([row] * (depth - 1) + [last])), self.FOUR)

    def test_the_place_is_none_other(self):
        # Beside a line that stays, it is seen where the line with lesser turns is put.
        for layers, lesser in ((("###", "#.."), 3), (("### ###",), 1), (("#s# ###",), 3), (("## ##",), 0)):
            catalogue = part("a", *layers) + box("pin", 1, 1, 1)
            for turns in range(4):
                wanted = told(build(("pin", 0, 0, 0), ("a", 5, 9, 4, turns & lesser)))
                self.assertEqual(plain_of(catalogue, ("a", 5, 9, 4, turns), ("pin", 0, 0, 0)), wanted)

    def test_every_small_part(self):
        seen = []
        for signs in product(".#stb", repeat=4):
            layers = ("".join(signs[:2]) + " " + "".join(signs[2:]),)
            catalogue = part("a", *layers)
            if judge(given(catalogue), given(BLANK_BUILD)) == [0]:
                for turns in range(4):
                    lines = [("a", 5, 5, 5, turns, 1)]
                    wanted = slow_plain({"a": layers}, lines)
                    seen.append(turns - wanted[0][4])
                    self.assertEqual(plain_of(catalogue, *lines), told(build(*wanted)), layers)
        self.assertEqual(set(seen), {0, 1, 2, 3})

    def test_many_parts_that_are_made_alike_when_turned(self):
        source = random.Random(5)
        kept = 0
        for k in range(300):
            layers = made_alike(source, k % 3)
            catalogue = part("a", *layers)
            if judge(given(catalogue), given(BLANK_BUILD)) == [0]:
                kept += 1
                for turns in range(4):
                    lines = [("a", 5, 5, 5, turns, 1)]
                    self.assertEqual(plain_of(catalogue, *lines), told(build(*slow_plain({"a": layers}, lines))))
        self.assertGreater(kept, 60)


def made_alike(source, sort):
    """Two layers of 3 by 3; by its sort it is alike when turned by 1, by 2, or by chance alone."""
    signs = {}
    for x, y, z in product(range(3), range(3), range(2)):
        sign = source.choice("##.t" if z == 0 else "##.s")
        around = [(x, y), (2 - x, 2 - y), (y, 2 - x), (2 - y, x)][:(4, 2, 1)[sort]]
        for place in around:
            signs[place + (z,)] = sign
    return tuple(" ".join("".join(signs[x, y, z] for x in range(3)) for y in range(3)) for z in range(2))


class Order(unittest.TestCase):
    def orders(self, catalogue, *wanted):
        """Whatever order the lines are in, this one is told."""
        for lines in permutations(wanted):
            self.assertEqual(plain_of(catalogue, *lines), told(build(*wanted)))

    def test_by_z_ahead_of_y_ahead_of_x(self):
        self.orders(CELLS, ("tube", 9, 9, 0), ("stud", 9, 0, 2), ("bare", 0, 3, 2), ("both", 0, 0, 9))
        self.orders(CELLS, ("tube", 9, 9, 0), ("tube", 0, 0, 1))
        self.orders(CELLS, ("tube", 9, 0, 0), ("tube", 0, 9, 0))
        self.orders(CELLS, ("tube", 0, 0, 0), ("tube", 9, 0, 0))
        for places in permutations([(0, 1, 2), (1, 0, 2), (2, 0, 1), (0, 2, 1), (2, 1, 0), (1, 2, 0)], 3):
            puts = [("bare", 0, 0, 0)] + [("bare",) + place for place in places]
            self.assertEqual(plain_of(CELLS, *puts), told(build(*sorted(puts, key=lambda put: put[3:0:-1]))))

    def test_by_numbers_not_by_signs(self):
        self.orders(CELLS, ("bare", 0, 0, 0), ("bare", 9, 0, 0), ("bare", 10, 0, 0), ("bare", 2, 9, 0),
                    ("bare", 1, 10, 0))
        self.orders(CELLS, ("bare", 0, 0, 0), ("bare", 0, 0, 9), ("bare", 0, 0, 10), ("bare", 0, 0, 90))

    def test_place_ahead_of_part_colour_and_turns(self):
        self.orders(CELLS + ANGLE.replace(" a ", " zz "), ("zz", 0, 0, 0, 3, 255), ("tube", 9, 0, 0, 0, 200),
                    ("both", 10, 0, 0, 0, 100), ("bare", 11, 0, 0, 0, 0))

    def test_at_one_place_by_the_part_s_number(self):
        self.orders(HALVED, ("half", 0, 0, 0, 2, 9), ("other", 0, 0, 0, 0, 1))
        self.orders(HALVED, ("half", 0, 0, 0, 0, 200), ("other", 0, 0, 0, 2, 3), ("pin", 2, 0, 0))
        # The pin is where the other part has no cell.
        self.orders(box("pin", 1, 1, 1) + part("tee", ".# ##"), ("pin", 0, 0, 0, 0, 9), ("tee", 0, 0, 0, 0, 1))
        self.orders(part("a", ".# ##") + box("pin", 1, 1, 1), ("a", 0, 0, 0, 0, 9), ("pin", 0, 0, 0, 0, 1))

    def test_at_one_place_and_of_one_part_by_colour(self):
        self.orders(HALVED, ("half", 0, 0, 0, 2, 9), ("half", 0, 0, 0, 0, 10))
        self.orders(HALVED, ("half", 0, 0, 0, 3, 0), ("half", 0, 0, 0, 1, 255))

    def test_at_one_place_of_one_part_and_colour_by_turns(self):
        self.orders(HALVED, ("half", 0, 0, 0, 0, 7), ("half", 0, 0, 0, 2, 7))
        self.orders(HALVED, ("half", 0, 0, 0, 1, 7), ("half", 0, 0, 0, 3, 7))

    def test_by_where_lines_are_when_home(self):
        lines = [("a", 30, 20, 10), ("a", 20, 30, 10, 1), ("a", 25, 25, 9, 2)]
        wanted = [("a", 5, 5, 0, 2), ("a", 10, 0, 1), ("a", 0, 10, 1, 1)]
        self.assertEqual(plain_of(ANGLE, *lines), told(build(*wanted)))

    def test_crowds_of_halves_against_the_words(self):
        source = random.Random(3)
        for k in range(60):
            places = [(3 * x, 3 * y, 3 * z) for x, y, z in product(range(2), repeat=3)]
            lines = []
            for place in source.sample(places, source.randrange(1, 9)):
                turns = source.randrange(4)
                names = source.choices(("half", "other"), k=2)
                lines += [(name, *place, (turns + 2 * n) % 4, source.randrange(3)) for n, name in enumerate(names)]
            source.shuffle(lines)
            self.assertEqual(plain_of(HALVED, *lines), told(build(*slow_plain(HALVES, lines))))


class Plain(unittest.TestCase):
    def test_ordinary_by_hand(self):
        catalogue = box("beam", 3, 1, 1, "b") + part("ell", "## #.") + box("plate", 2, 2, 1, "b")
        lines = [("plate", 12, 22, 31, 3, 8), ("beam", 12, 22, 30, 2, 9), ("ell", 10, 25, 30, 3, 7),
                 ("beam", 16, 20, 30, 3, 6)]
        wanted = "build a\nput beam 6 6 0 0 1\nput beam 9 2 2 0 0\nput ell 7 0 5 0 3\nput plate 8 2 2 1 0\n"
        self.assertEqual(plain_of(catalogue, *lines), told(wanted))

    def test_no_lines(self):
        self.assertEqual(plain_of(CELLS), told(BLANK_BUILD))
        self.assertEqual(plain(given(CELLS), given("build tower9\n")), told("build tower9\n"))

    def test_one_line(self):
        for place in ((0, 0, 0), (5, 6, 7), (63, 63, 95), (63, 0, 0), (0, 63, 0), (0, 0, 95)):
            for turns in range(4):
                wanted = told(build(("bare", 0, 0, 0, 0, 40)))
                self.assertEqual(plain_of(CELLS, ("bare", *place, turns, 40)), wanted)

    def test_home_by_the_least_of_the_cells(self):
        # Least x, y and z are those of three lines, none of which has a cell at its own (0, 0, 0).
        catalogue = part("a", ".# ##", ".. #.") + part("b", ".#", "##")
        lines = [("b", 30, 30, 10, 0), ("a", 30, 10, 30, 0), ("a", 10, 30, 30, 0)]
        self.assertEqual(plain_of(catalogue, *lines), told(build(*shifted(lines, (-10, -10, -10)))))

    def test_the_name_stays(self):
        for name in ("a", "z9", "abcdefghijklmnop"):
            b = given(build(("bare", 5, 5, 5, 3), name=name))
            self.assertEqual(plain(given(CELLS), b), told(build(("bare", 0, 0, 0), name=name)))

    def test_names_of_parts(self):
        puts = [(name, k, 0, 0) for k, name in enumerate(NAMES)]
        self.assertEqual(plain_of(NAMED, *puts[::-1]), told(build(*puts)))

    def test_parts_and_colours_stay(self):
        lines = [("tube", 0, 0, 0, 3, 255), ("bare", 1, 0, 0, 2, 10), ("stud", 2, 0, 0, 1, 9), ("both", 3, 0, 0, 1, 0)]
        wanted = [put[:4] + (0,) + put[5:] for put in lines]
        self.assertEqual(plain_of(CELLS, *lines), told(build(*wanted)))

    def test_not_right(self):
        self.assertEqual(plain_of(CELLS, ("bare", 3, 3, 3), ("bare", 3, 3, 3)), [-9])
        self.assertEqual(plain_of(CELLS, ("stud", 3, 3, 3), ("bare", 3, 3, 4)), [-9])
        # Beyond the room; moved home it would be right.
        self.assertEqual(plain_of(ANGLE, ("a", 62, 0, 0)), [-9])
        # Beyond the room with turns that are not the least.
        self.assertEqual(plain_of(box("a", 2, 1, 1), ("a", 63, 0, 0, 2)), [-9])

    def test_grown_builds_against_the_words(self):
        for lines in BUILDS:
            self.assertEqual(plain_of(SHAPED, *lines), told(build(*slow_plain(SHAPES, lines))), lines)

    def test_made_plain_twice(self):
        c = given(SHAPED)
        for lines in BUILDS:
            once = plain(c, given(build(*lines)))
            self.assertEqual(plain(c, once[1:]), once)

    def test_where_it_is_and_in_what_order_is_nothing_to_it(self):
        c = given(SHAPED)
        source = random.Random(8)
        for lines in BUILDS[:20]:
            wanted = plain(c, given(build(*lines)))
            self.assertEqual(plain(c, turned(0, c, given(build(*lines)))[1:]), wanted)
            mixed = list(lines)
            source.shuffle(mixed)
            self.assertEqual(plain(c, given(build(*mixed))), wanted)
            for way in ((1, 0, 0), (0, -1, 0), (0, 0, 1), (-2, 3, 1)):
                after = moved(*way, c, given(build(*mixed)))
                if after != [-3]:
                    self.assertEqual(plain(c, after[1:]), wanted)

    def test_as_right_as_it_was_and_holds_on_as_it_did(self):
        c = given(SHAPED)
        for lines in BUILDS[24:48]:
            b = given(build(*lines))
            answer = plain(c, b)
            self.assertEqual(answer[0], len(answer) - 1)
            self.assertEqual((judge(c, answer[1:]), check(c, answer[1:])), ([len(lines)], [0]))
            self.assertEqual(sizes(c, answer[1:])[:5], sizes(c, b)[:5])
            self.assertEqual(sizes(c, answer[1:])[5], sizes(c, turned(0, c, b)[1:])[5])

    def test_line_by_line_it_holds_on_as_it_did(self):
        c = given(SHAPED)
        # Each two lines are asked of by themselves: the largest builds would take long.
        for lines in [lines for lines in BUILDS if len(lines) < 20][:16]:
            home = turned(0, c, given(build(*lines)))[1:]
            after = plain(c, home)[1:]
            # Which line has become which: by part, colour and place, which differ here.
            before = [tuple(line(k, c, home)[:5]) for k in range(len(lines))]
            came = [before.index(tuple(line(k, c, after)[:5])) for k in range(len(lines))]
            self.assertEqual(sorted(came), list(range(len(lines))))
            for i, j in product(range(len(lines)), repeat=2):
                self.assertEqual(clutch(i, j, c, after), clutch(came[i], came[j], c, home))
            groups = [group(i, c, after)[0] for i in range(len(lines))]
            earlier = [group(i, c, home)[0] for i in came]
            for i, j in product(range(len(lines)), repeat=2):
                self.assertEqual(groups[i] == groups[j], earlier[i] == earlier[j])


if __name__ == "__main__":
    unittest.main()
