"""The calls: the order of the refusals, line, what is handed in, and inputs as large as may be."""

import time
import unittest

from brickrooms.builds import at, check, clutch, group, judge, line, moved, plain, same, sizes, turned
from tests.making import CELLS, NAMED, NAMES, box, build, given, told

NO_TEXT = "part"
NOT_RIGHT = box("b", 1, 1, 1) + box("a", 1, 1, 1)
GOOD_BUILD = "build a\nput bare 0 0 0 0 0\n"
CLASHING = "build a\nput bare 0 0 0 0 0\nput bare 0 0 0 0 0\n"
VERY_LARGE = 10 ** 30

# Each call with one number for all that it takes.
CALLS = {
    "judge": lambda i, c, b: judge(c, b),
    "check": lambda i, c, b: check(c, b),
    "line": line,
    "sizes": lambda i, c, b: sizes(c, b),
    "at": lambda i, c, b: at(i, i, i, c, b),
    "clutch": lambda i, c, b: clutch(i, i, c, b),
    "group": group,
    "moved": lambda i, c, b: moved(i, i, i, c, b),
    # -1 goes ahead of all else: it has a test of its own.
    "turned": lambda i, c, b: turned(min(i, 3), c, b),
    "plain": lambda i, c, b: plain(c, b),
    # What is answered of two builds that differ has tests of its own.
    "same": lambda i, c, b: same(c, b, b),
}


def all_calls(catalogue, text, i=0):
    c = given(catalogue)
    b = given(text)
    return {name: call(i, c, b) for name, call in CALLS.items()}


def all_alike(answer):
    return {name: answer for name in CALLS}


class Refusals(unittest.TestCase):
    def no_build(self, fault):
        return all_alike([-5]) | {"judge": [-5, fault]}

    def test_length_of_b(self):
        # No build's text is that long: but 16,384 bytes are read, and told their fault.
        for size, wanted in ((16383, self.no_build(7)), (16384, self.no_build(7)), (16385, all_alike([-2])),
                             (17000, all_alike([-2]))):
            text = "build a" + " " * (size - 7)
            self.assertEqual(all_calls(CELLS, text), wanted, size)

    def test_length_of_c(self):
        # Longer than the interface hands in: the calls' own row is kept all the same.
        self.assertEqual(all_calls("x" * 1048576, GOOD_BUILD), all_alike([-6]))
        self.assertEqual(all_calls("x" * 1048577, GOOD_BUILD), all_alike([-2]))

    def test_a_long_beginning_of_a_build(self):
        put = "put longname 255 63 63 95 3\n"
        whole = "build abcdefghijklmnop\n" + put * 256
        self.assertEqual(len(whole), 7191)
        self.assertEqual(judge(given(NAMED), given(whole)), [256])
        self.assertEqual(judge(given(NAMED), given((whole + put * 400)[:16384])), [-5, 7191])
        self.assertEqual(judge(given(NAMED), given((whole + put * 400)[:16385])), [-2])

    def test_length_ahead_of_all(self):
        for catalogue in (NO_TEXT, NOT_RIGHT, CELLS, ""):
            for start in (GOOD_BUILD, CLASHING, "no build"):
                text = start + "x" * (16385 - len(start))
                for i in (0, VERY_LARGE):
                    self.assertEqual(all_calls(catalogue, text, i), all_alike([-2]))

    def test_no_catalogue_ahead_of_what_comes_behind(self):
        for catalogue in (NO_TEXT, "", NOT_RIGHT + "x"):
            for text in (GOOD_BUILD, CLASHING, "no build", ""):
                for i in (0, 7, VERY_LARGE):
                    self.assertEqual(all_calls(catalogue, text, i), all_alike([-6]))

    def test_catalogue_not_right_ahead_of_what_comes_behind(self):
        for text in (GOOD_BUILD, CLASHING, "no build", "", "build a\nput a 0 0 0 0 0\n"):
            for i in (0, 7, VERY_LARGE):
                self.assertEqual(all_calls(NOT_RIGHT, text, i), all_alike([-8]))

    def test_no_build_ahead_of_what_comes_behind(self):
        for i in (0, 7, VERY_LARGE):
            # The lines that are there clash, but the text breaks off behind them.
            self.assertEqual(all_calls(CELLS, CLASHING + "put", i), self.no_build(len(CLASHING) + 3))

    def test_wrong_build_ahead_of_what_comes_behind(self):
        refused = all_alike([-9]) | {"judge": [2], "check": [-9, 2, 1, 0]}
        self.assertEqual(all_calls(CELLS, CLASHING, 1), refused | {"line": [0, 0, 0, 0, 0, 0]})
        for i in (2, 7, VERY_LARGE):
            self.assertEqual(all_calls(CELLS, CLASHING, i), refused | {"line": [-4]})
        self.assertEqual(moved(-1, 0, -VERY_LARGE, given(CELLS), given(CLASHING)), [-9])

    def test_every_way_of_being_wrong_is_refused(self):
        catalogue = CELLS + box("two", 2, 1, 1)
        for lines, wrong in (([("two", 63, 0, 0)], [1, 0, 0]), ([("bare", 9, 0, 0)] * 2, [2, 1, 0]),
                             ([("stud", 0, 0, 0), ("bare", 0, 0, 1)], [3, 1, 0])):
            refused = all_alike([-9]) | {"judge": [len(lines)], "check": [-9] + wrong, "line": [-4]}
            self.assertEqual(all_calls(catalogue, build(*lines), 5), refused)

    def test_turns_above_3_ahead_of_all(self):
        for r in (4, 5, 255, 2 ** 32, 2 ** 64, VERY_LARGE):
            for catalogue in (NO_TEXT, "", NOT_RIGHT, CELLS, "x" * 1048577):
                for text in (GOOD_BUILD, CLASHING, "no build", "", "x" * 16385):
                    self.assertEqual(turned(r, given(catalogue), given(text)), [-1])

    def test_no_such_line_or_place(self):
        good = {"judge": [1], "check": [0], "sizes": [1, 1, 0, 1, 1, 1], "moved": [-3],
                "turned": told("build a\nput bare 0 0 0 0 3\n"), "plain": told(GOOD_BUILD), "same": [0]}
        for i in (96, 256, VERY_LARGE):
            self.assertEqual(all_calls(CELLS, GOOD_BUILD, i), all_alike([-4]) | good)
        near = {"at": [-3], "moved": told("build a\nput bare 0 1 1 1 0\n"),
                "turned": told("build a\nput bare 0 0 0 0 1\n")}
        self.assertEqual(all_calls(CELLS, GOOD_BUILD, 1), all_alike([-4]) | good | near)

    def test_good_ones(self):
        good = {"judge": [1], "check": [0], "line": [0] * 6, "sizes": [1, 1, 0, 1, 1, 1], "at": [0], "clutch": [0],
                "group": [0], "moved": told(GOOD_BUILD), "turned": told(GOOD_BUILD), "plain": told(GOOD_BUILD),
                "same": [0]}
        self.assertEqual(all_calls(CELLS, GOOD_BUILD), good)
        none = {"judge": [0], "check": [0], "line": [-4], "sizes": [0] * 6, "at": [-3], "clutch": [-4],
                "group": [-4], "moved": told("build a\n"), "turned": told("build a\n"), "plain": told("build a\n"),
                "same": [0]}
        self.assertEqual(all_calls(CELLS, "build a\n"), none)


class Line(unittest.TestCase):
    TEXT = build(("tube", 1, 2, 3, 1, 255), ("bare", 63, 62, 95, 3, 7), ("stud", 10, 20, 30, 2, 40), ("bare", 0, 0, 0))

    def test_six_numbers_in_order(self):
        answers = [line(i, given(CELLS), given(self.TEXT)) for i in range(4)]
        wanted = [[3, 255, 1, 2, 3, 1], [0, 7, 63, 62, 95, 3], [2, 40, 10, 20, 30, 2], [0, 0, 0, 0, 0, 0]]
        self.assertEqual(answers, wanted)

    def test_of_a_build_that_is_not_right(self):
        catalogue = given(CELLS + box("two", 2, 1, 1))
        text = given(build(("two", 63, 0, 0, 0, 9), ("both", 3, 3, 3), ("both", 3, 3, 3), ("stud", 3, 3, 4, 2)))
        self.assertEqual(check(catalogue, text), [-9, 1, 0, 0])
        answers = [line(i, catalogue, text) for i in range(5)]
        self.assertEqual(answers, [[4, 9, 63, 0, 0, 0], [1, 0, 3, 3, 3, 0], [1, 0, 3, 3, 3, 0], [2, 0, 3, 3, 4, 2], [-4]])

    def test_no_such_line(self):
        for i in (4, 5, 255, 256, 257, 2 ** 32, 2 ** 64, 10 ** 30 - 1, 10 ** 30):
            self.assertEqual(line(i, given(CELLS), given(self.TEXT)), [-4])
        self.assertEqual(line(0, given(CELLS), given("build a\n")), [-4])

    def test_the_last_of_256(self):
        text = given(build(*[("both", k % 64, k // 64, 0, k % 4, k) for k in range(256)]))
        self.assertEqual(line(255, given(CELLS), text), [1, 255, 63, 3, 0, 3])
        self.assertEqual(line(256, given(CELLS), text), [-4])


class WhatIsHandedIn(unittest.TestCase):
    PAIRS = ((CELLS, GOOD_BUILD), (CELLS, CLASHING), (CELLS, "no build"), (NOT_RIGHT, GOOD_BUILD), (NO_TEXT, ""),
             (NAMED, build((NAMES[1], 1, 2, 3, 2), (NAMES[4], 1, 2, 4, 3))), (CELLS, "x" * 16385))

    def test_is_as_it_was(self):
        for catalogue, text in self.PAIRS:
            c = given(catalogue)
            b = given(text)
            for call in CALLS.values():
                call(0, c, b)
                self.assertEqual((c, b), (given(catalogue), given(text)))

    def test_is_not_changed_for_a_while_either(self):
        class Sealed(list):
            def refuse(self, *arguments):
                raise RuntimeError("changed")
            append = clear = extend = insert = pop = remove = reverse = sort = refuse
            __setitem__ = __delitem__ = __iadd__ = __imul__ = refuse

        for catalogue, text in self.PAIRS:
            c = Sealed(given(catalogue))
            b = Sealed(given(text))
            self.assertEqual({name: call(0, c, b) for name, call in CALLS.items()}, all_calls(catalogue, text))

    def test_nothing_is_kept(self):
        alone = [all_calls(catalogue, text) for catalogue, text in self.PAIRS]
        for count in range(3):
            self.assertEqual([all_calls(catalogue, text) for catalogue, text in self.PAIRS], alone)
            self.assertEqual([all_calls(catalogue, text) for catalogue, text in self.PAIRS[::-1]], alone[::-1])

    def test_an_answer_is_the_caller_s_own(self):
        c = given(CELLS)
        b = given(GOOD_BUILD)
        for call in CALLS.values():
            first = call(0, c, b)
            wanted = list(first)
            first.append(99)
            first[0] = 77
            self.assertEqual(call(0, c, b), wanted)

    def test_kinds(self):
        for catalogue, text in self.PAIRS:
            for answer in all_calls(catalogue, text).values():
                self.assertIs(type(answer), list)
                self.assertEqual({type(number) for number in answer}, {int})


class AsLargeAsMayBe(unittest.TestCase):
    def answers(self, c, b, wanted, further=None):
        """wanted: of judge, check and line 255; further: by name what other calls answer, of line 255, too."""
        self.assertLessEqual(len(c), 100000)
        self.assertLessEqual(len(b), 17000)
        wanted = dict(zip(("judge", "check", "line"), wanted)) | (further or {})
        for name, answer in wanted.items():
            started = time.monotonic()
            self.assertEqual(CALLS[name](255, c, b), answer, name)
            self.assertLess(time.monotonic() - started, 30)

    def test_a_catalogue_of_nearly_100000_bytes(self):
        parts = [box(f"a{k:02}", 16, 16, 18) for k in range(20)]
        text = "".join(parts)
        text += "".join(box(f"b{k:02}", 16, 1, 1) for k in range(44))
        self.assertEqual(judge(given(text), given("build a\n")), [0])
        further = {"sizes": [1, 4608, 0, 1, 1, 18], "at": [-4], "clutch": [-4], "group": [-4], "moved": [-3],
                   "turned": told("build a\nput a19 0 0 0 0 2\n"), "plain": told("build a\nput a19 0 0 0 0 0\n"),
                   "same": [0]}
        self.answers(given(text), given("build a\nput a19 0 0 0 0 3\n"), [[1], [0], [-4]], further)

    def test_100000_bytes_that_are_no_catalogue(self):
        for sign in "p#\n\x00\xff":
            self.answers(given(sign * 100000), given("build a\n"), [[-6]] * 3)
        text = "".join(box(f"a{k:02}", 16, 16, 18) for k in range(21))
        self.answers(given(text[:100000]), given("build a\n"), [[-6]] * 3)

    def test_a_full_room(self):
        # 80 parts of 16 by 16 by 18, turned each way, fill the room up to z 89.
        c = given(box("a", 16, 16, 18, "t" + "#" * 16 + "s"))
        puts = [("a", 16 * x, 16 * y, 18 * z, (x + y + z) % 4) for z in range(5) for y in range(4) for x in range(4)]
        b = given(build(*puts))
        last = [("a", 48 - y, x, z, (turns + 3) % 4) for name, x, y, z, turns in puts]
        further = {"sizes": [80, 368640, 16384, 16, 80, 90], "at": [-4], "clutch": [-4], "group": [-4], "moved": [-3],
                   "turned": told(build(*last)), "plain": told(build(*[put[:4] for put in puts])), "same": [0]}
        self.answers(c, b, [[80], [0], [-4]], further)
        self.assertEqual([same(c, b, given(build(*last))), same(c, b, given(build(*last[1:])))], [[0], [-3]])
        self.assertEqual([at(63, 63, 89, c, b), at(63, 63, 90, c, b)], [[79], [-3]])
        self.assertEqual([clutch(63, 79, c, b), clutch(79, 63, c, b)], [[256], [0]])
        self.assertEqual([group(79, c, b), group(64, c, b)], [[15], [0]])
        high = [(name, x, y, z + 6, turns) for name, x, y, z, turns in puts]
        self.assertEqual([moved(0, 0, 6, c, b), moved(0, 0, 7, c, b)], [told(build(*high)), [-3]])
        refused = {name: [-9] for name in CALLS if name not in ("judge", "check", "line")}
        self.answers(c, given(build(*puts, puts[79])), [[81], [-9, 2, 80, 79], [-4]], refused)

    def test_a_full_room_of_many_large_parts(self):
        text = "".join(box(f"a{k:02}", 16, 16, 18, "t" + "#" * 16 + "s") for k in range(20))
        c = given(text + "".join(box(f"b{k:02}", 16, 1, 1) for k in range(44)))
        puts = [(f"a{(5 * x + 3 * y + z) % 20:02}", 16 * x, 16 * y, 18 * z, (x + y + z) % 4)
                for z in range(5) for y in range(4) for x in range(4)]
        b = given(build(*puts))
        self.answers(c, b, [[80], [0], [-4]], {"plain": told(build(*[put[:4] for put in puts])), "same": [0]})
        started = time.monotonic()
        self.assertEqual(same(c, b, turned(3, c, b)[1:]), [3])
        self.assertLess(time.monotonic() - started, 30)

    def test_256_lines(self):
        c = given(box("a", 4, 4, 6, "t" + "#" * 4 + "s"))
        puts = [("a", 4 * (k % 16), 4 * (k // 16), 0, k % 4, k) for k in range(256)]
        least = [put[:4] + (0, put[5]) for put in puts]
        further = {"sizes": [256, 256 * 96, 0, 256, 256, 6], "at": [-4], "clutch": [0], "group": [255], "moved": [-3],
                   "plain": told(build(*least)), "same": [0]}
        self.answers(c, given(build(*puts)), [[256], [0], [0, 255, 60, 60, 0, 3]], further)
        self.assertEqual(plain(c, given(build(*puts[::-1]))), told(build(*least)))
        for r in range(4):
            after = turned(r, c, given(build(*puts[::-1])))[1:]
            self.assertEqual(same(c, given(build(*puts)), after), [r])
        self.assertEqual(same(c, given(build(*puts)), given(build(*puts[:255], puts[255][:5] + (0,)))), [-3])
        self.answers(c, given(build(*puts[:255], ("a", 0, 0, 0))), [[256], [-9, 2, 255, 0], [0, 0, 0, 0, 0, 0]])
        self.answers(c, given(build(*puts[:255], ("a", 1, 1, 4))), [[256], [-9, 2, 255, 0], [0, 0, 1, 1, 4, 0]])
        further = {"sizes": [256, 256 * 96, 16, 252, 256, 12], "clutch": [0], "group": [0]}
        self.answers(c, given(build(*puts[:255], ("a", 3, 3, 6))), [[256], [0], [0, 0, 3, 3, 6, 0]], further)

    def test_a_chain_of_256_lines(self):
        # Each line holds on to the next one alone: recursion from line to line would go as deep.
        c = given(box("one", 1, 1, 1, "b") + box("two", 2, 1, 1, "b"))
        chain = [("one", 0, 0, z) for z in range(95)] + [("two", 0, 0, 95)]
        chain += [("one", 1, 0, z) for z in range(94, 0, -1)] + [("two", 1, 0, 0)]
        chain += [("one", 2, 0, z) for z in range(1, 66)]
        for order in (chain, chain[::-1], chain[1::2] + chain[::2]):
            self.assertEqual(sizes(c, given(build(*order))), [256, 258, 255, 1, 256, 96])
            self.assertEqual([group(i, c, given(build(*order))) for i in (0, 127, 255)], [[0]] * 3)
        parted = given(build(*chain[:100], *chain[101:]))
        self.assertEqual(sizes(c, parted), [255, 257, 253, 2, 255, 96])
        self.assertEqual([group(i, c, parted) for i in (0, 99, 100, 254)], [[0], [0], [100], [100]])

    def test_256_lines_in_one_another(self):
        # An angle with a post at its corner: moved along the slant, places overlap, but no cells do.
        full, left, none = "#" * 16, "#" + "." * 15, "." * 16
        layers = [[full] + [left] * 15] + [[left] + [none] * 15] * 15
        c = given("part a 16 16 16 1\n" + "".join(row + "\n" for layer in layers for row in layer))
        puts = [("a", k % 49, k % 49, 16 * (k // 49)) for k in range(256)]
        further = {"sizes": [256, 256 * 46, 0, 256, 256, 96], "at": [-4], "clutch": [0], "group": [255],
                   "moved": [-3], "turned": told(build(*[("a", 48 - y, x, z, 3) for name, x, y, z in puts])),
                   "plain": told(build(*puts)), "same": [0]}
        self.answers(c, given(build(*puts)), [[256], [0], [0, 0, 10, 10, 80, 0]], further)
        self.assertEqual(same(c, given(build(*puts)), further["turned"][1:]), [3])
        self.answers(c, given(build(*puts[:255], ("a", 0, 1, 0))), [[256], [-9, 2, 255, 0], [0, 0, 0, 1, 0, 0]])

    def test_a_part_whose_cells_are_one_long_way(self):
        # Recursion from cell to cell would go as deep as the part has cells.
        full, left, right = "#" * 16, "#" + "." * 15, "." * 15 + "#"
        none = ["." * 16] * 15
        snake = [full, right, full, left] * 4
        links = [none + [left], [left] + none]
        layers = [snake if z % 2 == 0 else links[z // 2 % 2] for z in range(17)]
        text = "part a 16 16 17 1\n" + "".join(row + "\n" for layer in layers for row in layer)
        self.answers(given(text), given("build a\nput a 0 0 0 0 1\n"), [[1], [0], [-4]])

    def test_the_longest_texts_for_b(self):
        c = given("".join(box(f"a{k:03}", 1, 1, 1) for k in range(64)))
        for sign in "b \n\x00\xff":
            self.answers(c, given(sign * 16384), [[-5, 1 if sign == "b" else 0], [-5], [-5]])
            self.answers(c, given(sign * 17000), [[-2]] * 3)


if __name__ == "__main__":
    unittest.main()
