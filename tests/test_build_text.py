"""The build's text: what is one, and -5 for what is none, of judge with the fault."""

import random
import unittest

from brickrooms.builds import check, judge, line
from tests.making import NAMED, NAMES, box, build, given, slow_fault

C = given(NAMED)


class BuildText(unittest.TestCase):
    def reads(self, text, lines):
        self.assertEqual(judge(C, given(text)), [lines], text)

    def refused(self, text, fault):
        b = given(text)
        self.assertEqual(judge(C, b), [-5, fault], text)
        self.assertEqual([check(C, b), line(0, C, b)], [[-5], [-5]], text)

    def test_ordinary(self):
        self.reads("build a\n", 0)
        self.reads("build tower\nput a 0 0 0 0 0\n", 1)
        self.reads("build t\nput a 0 0 0 0 0\nput ab 255 63 63 95 3\nput a 7 10 9 8 1\n", 3)

    def test_names(self):
        for name in ("a", "z", "a0", "b1", "abcdefghijklmnop", "a123456789012345", "build", "put"):
            self.reads(f"build {name}\n", 0)
        self.refused("build \n", 6)
        self.refused("build 0\n", 6)
        self.refused("build A\n", 6)
        self.refused("build aB\n", 7)
        self.refused("build a b\n", 7)
        self.refused("build a_\n", 7)
        self.refused("build  a\n", 6)
        self.refused("build abcdefghijklmnopq\n", 22)
        self.refused("build abcdefghijklmnop \n", 22)

    def test_how_many_lines(self):
        put = "put a 0 0 0 0 0\n"
        for count in (0, 1, 2, 255, 256):
            self.reads("build a\n" + put * count, count)
        whole = "build a\n" + put * 256
        self.refused("build a\n" + put * 257, len(whole))
        self.refused("build a\n" + put * 300, len(whole))
        self.refused(whole + "p", len(whole))
        self.refused(whole + "\n", len(whole))
        self.refused("build a\n" + put * 255 + "put", len(whole) - len(put) + 3)

    def test_part_names_of_the_catalogue(self):
        for number, name in enumerate(NAMES):
            text = build((name, 1, 2, 3))
            self.reads(text, 1)
            self.assertEqual(line(0, C, given(text)), [number, 0, 1, 2, 3, 0])

    def test_part_names_of_no_catalogue(self):
        # The text's beginning has 12 bytes ahead of the part's name.
        for name, good in (("c", 0), ("ac", 1), ("abc", 2), ("ab00", 3), ("b", 1), ("b2", 1), ("b10", 2), ("long", 4),
                           ("longnam", 7), ("longnames", 8), ("longnamx", 7), ("0", 0), ("", 0), ("zz", 1), ("A", 0)):
            self.refused(f"build a\nput {name} 0 0 0 0 0\n", 12 + good)

    def test_a_part_name_broken_off(self):
        for size in range(len("longname") + 1):
            self.refused("build a\nput " + "longname"[:size], 12 + size)

    def test_names_of_another_catalogue(self):
        c = given(box("abc", 1, 1, 1))
        self.assertEqual(judge(c, given("build a\nput abc 0 0 0 0 0\n")), [1])
        self.assertEqual(judge(c, given("build a\nput ab 0 0 0 0 0\n")), [-5, 14])
        self.assertEqual(judge(c, given("build a\nput z 0 0 0 0 0\n")), [-5, 12])

    def test_numbers_to_their_most(self):
        for k, most in enumerate((255, 63, 63, 95, 3)):
            for number in range(most + 120):
                numbers = ["0"] * 5
                numbers[k] = str(number)
                text = "build a\nput a " + " ".join(numbers) + "\n"
                if number <= most:
                    self.reads(text, 1)
                    wanted = [0, 0, 0, 0, 0, 0]
                    wanted[k + 1] = number
                    self.assertEqual(line(0, C, given(text)), wanted)
                else:
                    good = max(size for size in range(4) if int(str(number)[:size] or 0) <= most)
                    self.refused(text, 14 + 2 * k + good)

    def test_needless_noughts(self):
        for k in range(5):
            for bad, good in (("00", 1), ("01", 1), ("000", 1), ("010", 1)):
                numbers = ["0"] * 5
                numbers[k] = bad
                self.refused("build a\nput a " + " ".join(numbers) + "\n", 14 + 2 * k + good)

    def test_no_numbers(self):
        for k in range(5):
            for bad, good in (("", 0), ("-1", 0), ("+1", 0), ("x", 0), ("1x", 1), (" 1", 0), ("1.0", 1)):
                numbers = ["0"] * 5
                numbers[k] = bad
                self.refused("build a\nput a " + " ".join(numbers) + "\n", 14 + 2 * k + good)

    def test_too_few_and_too_many_numbers(self):
        self.refused("build a\nput a 0 0 0 0\n", 21)
        self.refused("build a\nput a 0 0 0 0 0 0\n", 23)
        self.refused("build a\nput a 0 0 0 0 0 \n", 23)
        self.refused("build a\nput a\n", 13)

    def test_breaks_off_anywhere(self):
        text = "build ab1\nput ab 25 6 63 95 3\nput longname 0 0 0 0 0\n"
        whole = [k + 1 for k in range(len(text)) if text[k] == "\n"]
        for size in range(len(text)):
            if size in whole:
                self.reads(text[:size], whole.index(size))
            else:
                self.refused(text[:size], size)

    def test_goes_on_too_long(self):
        text = "build a\nput a 0 0 0 0 0\n"
        self.refused(text + "\n", len(text))
        self.refused(text + " ", len(text))
        self.refused(text + "build a\n", len(text))
        self.refused(text + "puta", len(text) + 3)
        self.refused(text + "\x00", len(text))

    def test_empty_and_other_texts(self):
        self.refused("", 0)
        self.refused("Build a\n", 0)
        self.refused("buildx", 5)
        self.refused("build a\r\n", 7)
        self.refused("build a\n\n", 8)
        self.refused("put a 0 0 0 0 0\n", 0)

    def test_every_byte_at_every_place(self):
        text = "build b\nput ab 25 6 0 9 2\n"
        for k in range(len(text)):
            for other in range(256):
                bad = text[:k] + chr(other) + text[k + 1:]
                fault = slow_fault(bad, NAMES) if chr(other) in "0123456789abcdefghijklmnopqrstuvwxyz \n" else k
                self.assertEqual(judge(C, given(bad)), [1] if fault is None else [-5, fault], bad)

    def test_against_the_words_of_the_fault(self):
        source = random.Random(3)
        seen = [0, 0]
        for count in range(1500):
            puts = [(source.choice(NAMES), source.randrange(64), source.randrange(64), source.randrange(96),
                     source.randrange(4), source.randrange(256)) for k in range(source.randrange(3))]
            text = build(*puts, name=source.choice(NAMES))
            for change in range(source.randrange(3)):
                k = source.randrange(len(text) + 1)
                text = text[:k] + source.choice(["", "0", "9", "a", "z", " ", "\n", "b0", "put "]) + \
                    text[k + source.randrange(2):]
            fault = slow_fault(text, NAMES)
            seen[fault is None] += 1
            self.assertEqual(judge(C, given(text))[:2], [text.count("\n") - 1] if fault is None else [-5, fault], text)
        self.assertGreater(min(seen), 300)

    def test_one_text_for_each_build(self):
        # What line tells of a text, written out again, is that text: no two texts have the same lines and name.
        source = random.Random(4)
        for count in range(50):
            puts = [(source.choice(NAMES), source.randrange(64), source.randrange(64), source.randrange(96),
                     source.randrange(4), source.randrange(256)) for k in range(source.randrange(8))]
            b = given(build(*puts))
            told = [line(k, C, b) for k in range(judge(C, b)[0])]
            again = [(NAMES[number], x, y, z, turns, colour) for number, colour, x, y, z, turns in told]
            self.assertEqual(again, puts)


if __name__ == "__main__":
    unittest.main()
