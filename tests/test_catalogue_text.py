"""The catalogue's text: what is one, and -6 for what is none."""

import random
import unittest

from brickrooms.builds import check, judge, line
from tests.making import BLANK_BUILD, box, build, given, part


def answer(text):
    return judge(given(text), given(BLANK_BUILD))


class CatalogueText(unittest.TestCase):
    def reads(self, text):
        self.assertEqual(answer(text), [0], text[:60])

    def refused(self, text):
        c = given(text)
        b = given(BLANK_BUILD)
        self.assertEqual([judge(c, b), check(c, b), line(0, c, b)], [[-6], [-6], [-6]], text[:60])

    def test_ordinary(self):
        self.reads("part a 1 1 1 1\n#\n")
        self.reads("part a 2 1 1 7\nsb\n")
        self.reads("part a 1 2 3 40\n#\nt\n#\n.\ns\n.\npart b 1 1 1 1\nb\n")

    def test_every_sign(self):
        for sign in "#stb":
            self.reads(f"part a 1 1 1 1\n{sign}\n")
        self.reads("part a 2 2 1 1\n##\n.#\n")

    def test_names(self):
        for name in ("a", "z", "a0", "z9", "abcdefgh", "a1234567", "part"):
            self.reads(box(name, 1, 1, 1))
        for name in ("", "0", "9a", "abcdefghi", "a12345678", "A", "aB", "a_b", "a b", "a-", " a", "a ", "{", "a`"):
            self.refused(box(name, 1, 1, 1))

    def test_sizes(self):
        for size in (1, 9, 10, 16):
            self.reads(box("a", size, 1, 1))
            self.reads(box("a", 1, size, 1))
        for size in (1, 9, 10, 17, 18):
            self.reads(box("a", 1, 1, size))
        self.reads(box("a", 16, 16, 18))
        for size in (17, 18, 20, 160):
            self.refused(box("a", size, 1, 1))
            self.refused(box("a", 1, size, 1))
        for size in (19, 20, 180):
            self.refused(box("a", 1, 1, size))

    def test_size_nought(self):
        self.refused("part a 0 1 1 1\n")
        self.refused("part a 0 1 1 1\n\n")
        self.refused("part a 1 0 1 1\n")
        self.refused("part a 1 1 0 1\n")

    def test_weights(self):
        for weight in (1, 9, 10, 99, 100, 1000, 9999):
            self.reads(box("a", 1, 1, 1, weight=weight))
        for weight in (0, 10000, 99990, "", "-1", "+1", "x", "1.0", "1 "):
            self.refused(box("a", 1, 1, 1, weight=weight))

    def test_needless_noughts(self):
        for numbers in ("01 1 1 1", "1 01 1 1", "1 1 01 1", "1 1 1 01", "1 1 1 00", "001 1 1 1", "1 1 1 0009"):
            self.refused(f"part a {numbers}\n#\n")

    def test_rows_and_layers(self):
        head = "part a 2 2 2 1\n"
        self.reads(head + "##\n" * 4)
        for rows in ("##\n" * 3, "##\n" * 5, "##\n" * 2, "##\n" * 3 + "#\n", "##\n" * 3 + "###\n", "#\n" + "##\n" * 3,
                     "###\n" + "##\n" * 3, "##\n##\n\n##\n##\n", "##\n" * 3 + "##", "########\n", "##\n" * 4 + "\n"):
            self.refused(head + rows)
        self.refused("part a 1 1 1 1\n")
        self.refused("part a 1 1 1 1\n#\n#\n")

    def test_other_bytes(self):
        text = "part a 2 1 1 12\n##\n"
        self.reads(text)
        for other in (0, 9, 10, 13, 32, 42, 47, 58, 66, 83, 127, 128, 255):
            for k in range(len(text)):
                if ord(text[k]) != other and not (k == 12 and other == 10):
                    bad = given(text)
                    bad[k] = other
                    self.assertEqual(judge(bad, given(BLANK_BUILD)), [-6], (k, other))
            self.assertEqual(judge(given(text) + [other], given(BLANK_BUILD)), [-6], other)
            self.assertEqual(judge([other] + given(text), given(BLANK_BUILD)), [-6], other)

    def test_breaks_off_anywhere(self):
        text = box("a", 2, 1, 2) + box("b", 1, 2, 1)
        whole = (len(box("a", 2, 1, 2)), len(text))
        for size in range(len(text) + 1):
            self.assertEqual(answer(text[:size]), [0] if size in whole else [-6], size)

    def test_empty(self):
        self.refused("")
        self.refused("\n")

    def test_how_many_parts(self):
        parts = [box(f"a{k:03}", 1, 1, 1) for k in range(66)]
        for count in (1, 2, 63, 64):
            self.reads("".join(parts[:count]))
        for count in (65, 66):
            self.refused("".join(parts[:count]))
        self.refused("".join(parts[:64]) + "part ")

    def test_a_text_need_not_be_right(self):
        # -8, not -6: the text is a catalogue's, though not of a right one.
        self.assertEqual(answer("part a 1 1 1 1\n.\n"), [-8])
        self.assertEqual(answer(box("b", 1, 1, 1) + box("a", 1, 1, 1)), [-8])
        self.assertEqual(answer(box("a", 1, 1, 1) * 64), [-8])
        self.assertEqual(answer(box("a", 1, 1, 1) * 65), [-6])

    def test_a_wrong_part_ahead_of_a_broken_text(self):
        self.refused("part a 1 1 1 1\n.\npart b 1 1 1 1\n")

    def test_parts_are_numbered_from_nought(self):
        parts = [f"a{k:03}" for k in range(64)]
        c = given("".join(box(name, 1, 1, 1) for name in parts))
        b = given(build(*[(name, k, 0, 0) for k, name in enumerate(parts)]))
        self.assertEqual([line(k, c, b) for k in range(64)], [[k, 0, k, 0, 0, 0] for k in range(64)])

    def test_one_byte_taken_out_or_put_in(self):
        text = part("ab", "## #.", "s. s.", weight=10)
        self.reads(text)
        source = random.Random(1)
        head = len("part ab 2 2 2 ")
        for k in range(head):
            self.refused(text[:k] + text[k + 1:]) if text[k] not in "ab" or k < 5 else self.reads(text[:k] + text[k + 1:])
        for k in range(head + 3, len(text) + 1):
            self.refused(text[:k] + text[k + 1:] if k < len(text) else text[:-1])
            self.refused(text[:k] + source.choice(".#stb\n ") + text[k:])


if __name__ == "__main__":
    unittest.main()
