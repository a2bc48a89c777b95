"""Eight rows of 64 places: moved."""

import random
import unittest
from itertools import product

from brickrooms.builds import rowsmoved

NONE = [0] * 8
FULL = 2 ** 64 - 1
ALL = [FULL] * 8
VERY_LARGE = (2 ** 32, 2 ** 64 - 1, 2 ** 64, 2 ** 64 + 1, 10 ** 30 - 1, 10 ** 30)
NO_ROWS = [[], [0], [0] * 7, [FULL] * 7, [0] * 9, [FULL] * 9, [0] * 16, [0] * 20, [FULL] * 20]
NO_ROWS += [[0] * k + [number] + [0] * (7 - k) for k in range(8) for number in VERY_LARGE[2:]]
NO_ROWS += [[2 ** 64] * 8, [10 ** 30] * 8, [10 ** 30] * 20, [2 ** 64] * 7]


def places(rows):
    """The places that are 1."""
    return {(x, y) for x, y in product(range(64), range(8)) if rows[y] // 2 ** x % 2 == 1}


def rows_of(ones):
    rows = [0] * 8
    for x, y in ones:
        rows[y] += 2 ** x
    return rows


def slow_moved(dx, dy, rows):
    """Place by place, straight from the document's words."""
    a, b = divmod(dx, 64)[1], divmod(dy, 8)[1]
    return rows_of((x + a, y + b) for x, y in places(rows) if x + a <= 63 and y + b <= 7)


def chance_rows(source, share):
    return rows_of(place for place in product(range(64), range(8)) if source.random() < share)


class RowsMoved(unittest.TestCase):
    def test_ordinary(self):
        self.assertEqual(rowsmoved(0, 0, [1, 2, 3, 4, 5, 6, 7, 8]), [1, 2, 3, 4, 5, 6, 7, 8])
        self.assertEqual(rowsmoved(1, 0, [1, 2, 3, 4, 5, 6, 7, 8]), [2, 4, 6, 8, 10, 12, 14, 16])
        self.assertEqual(rowsmoved(0, 1, [1, 2, 3, 4, 5, 6, 7, 8]), [0, 1, 2, 3, 4, 5, 6, 7])
        self.assertEqual(rowsmoved(4, 3, [1, 2, 3, 4, 5, 6, 7, 8]), [0, 0, 0, 16, 32, 48, 64, 80])

    def test_one_place_to_each(self):
        for dx, dy in product(range(64), range(8)):
            self.assertEqual(rowsmoved(dx, dy, rows_of([(0, 0)])), rows_of([(dx, dy)]))

    def test_the_last_place_goes_beyond(self):
        last = rows_of([(63, 7)])
        for dx, dy in product((0, 1, 2, 62, 63), (0, 1, 6, 7)):
            self.assertEqual(rowsmoved(dx, dy, last), last if (dx, dy) == (0, 0) else NONE)
        self.assertEqual(rowsmoved(1, 0, rows_of([(62, 7), (63, 7)])), last)
        self.assertEqual(rowsmoved(0, 1, rows_of([(63, 6), (63, 7)])), last)

    def test_beyond_to_the_right_is_gone_and_not_in_the_next_row(self):
        for dx in range(1, 64):
            self.assertEqual(rowsmoved(dx, 0, [FULL] + [0] * 7), [2 ** 64 - 2 ** dx] + [0] * 7)
            self.assertEqual(rowsmoved(dx, 0, ALL), [2 ** 64 - 2 ** dx] * 8)

    def test_beyond_the_last_rows_is_gone_and_not_in_the_first(self):
        for dy in range(8):
            self.assertEqual(rowsmoved(0, dy, ALL), [0] * dy + [FULL] * (8 - dy))
        self.assertEqual(rowsmoved(0, 7, [9, 1, 1, 1, 1, 1, 1, 1]), [0] * 7 + [9])

    def test_63_and_7(self):
        self.assertEqual(rowsmoved(63, 7, ALL), rows_of([(63, 7)]))
        self.assertEqual(rowsmoved(63, 0, [1, 2, 3, FULL, 0, 4, 5, 6]), [2 ** 63 * k for k in (1, 0, 1, 1, 0, 0, 1, 0)])

    def test_64_and_8_and_more(self):
        rows = [3, 2 ** 63, FULL, 0, 5, 6, 7, 2 ** 63 + 1]
        for dx in (0, 1, 5, 63):
            for dy in (0, 1, 5, 7):
                wanted = rowsmoved(dx, dy, rows)
                self.assertEqual(wanted, slow_moved(dx, dy, rows))
                for more_x, more_y in ((64, 0), (0, 8), (64, 8), (128, 16), (6400, 800), (2 ** 64, 2 ** 64)):
                    self.assertEqual(rowsmoved(dx + more_x, dy + more_y, rows), wanted)
        self.assertEqual(rowsmoved(64, 8, rows), rows)
        self.assertEqual(rowsmoved(8, 0, [1] * 8), [256] * 8)
        self.assertEqual(rowsmoved(0, 64, [1] * 8), [1] * 8)

    def test_very_large_ways(self):
        rows = [1, 3, FULL, 2 ** 63, 9, 0, 10, 2 ** 62 + 5]
        for dx, dy in product((0, 7) + VERY_LARGE, repeat=2):
            self.assertEqual(rowsmoved(dx, dy, rows), slow_moved(dx, dy, rows), (dx, dy))

    def test_every_way_against_the_words(self):
        source = random.Random(1)
        for dx in range(0, 131):
            rows = chance_rows(source, source.choice((0.1, 0.5, 0.9)))
            for dy in (dx % 8, (dx + 3) % 17, 0):
                self.assertEqual(rowsmoved(dx, dy, rows), slow_moved(dx, dy, rows), (dx, dy))

    def test_moved_on_is_moved_by_both(self):
        source = random.Random(2)
        for k in range(60):
            rows = chance_rows(source, 0.5)
            one, two = source.randrange(40), source.randrange(24)
            low, high = source.randrange(5), source.randrange(3)
            on = rowsmoved(two, high, rowsmoved(one, low, rows))
            self.assertEqual(on, rowsmoved(one + two, low + high, rows))

    def test_nothing_moved(self):
        for dx, dy in product((0, 1, 63, 64, 10 ** 30), (0, 1, 7, 8, 10 ** 30)):
            self.assertEqual(rowsmoved(dx, dy, NONE), NONE)

    def test_no_rows(self):
        for rows in NO_ROWS:
            for dx, dy in ((0, 0), (1, 1), (63, 7), (10 ** 30, 10 ** 30)):
                self.assertEqual(rowsmoved(dx, dy, rows), [-1], rows)

    def test_a_number_too_large_that_would_go_beyond(self):
        self.assertEqual(rowsmoved(0, 1, [0] * 7 + [2 ** 64]), [-1])
        self.assertEqual(rowsmoved(0, 7, [0] + [10 ** 30] * 7), [-1])

    def test_the_largest_number(self):
        for k in range(8):
            rows = [0] * k + [FULL] + [0] * (7 - k)
            self.assertEqual(rowsmoved(0, 0, rows), rows)
            rows[k] += 1
            self.assertEqual(rowsmoved(0, 0, rows), [-1])

    def test_what_is_handed_in_is_as_it_was(self):
        for rows in (NONE, ALL, [1, 2, 3, 4, 5, 6, 7, 8], [0] * 7, [2 ** 64] * 8):
            for dx, dy in ((0, 0), (1, 0), (0, 1), (63, 7), (64, 8)):
                handed = list(rows)
                answer = rowsmoved(dx, dy, handed)
                self.assertEqual(handed, rows)
                self.assertEqual({type(number) for number in answer}, {int})
                wanted = list(answer)
                # What is answered is the caller's own.
                answer[0] = 77
                self.assertEqual((handed, rowsmoved(dx, dy, handed)), (rows, wanted))


if __name__ == "__main__":
    unittest.main()
