"""Eight rows of 64 places: moved, and how often two hit one another."""

import random
import unittest
from itertools import product

from brickrooms.builds import rowshit, rowsmoved

NONE = [0] * 8
FULL = 2 ** 64 - 1
ALL = [FULL] * 8
VERY_LARGE = (2 ** 32, 2 ** 64 - 1, 2 ** 64, 2 ** 64 + 1, 10 ** 30 - 1, 10 ** 30)
NO_ROWS = [[], [0], [0] * 7, [FULL] * 7, [0] * 9, [FULL] * 9, [0] * 16, [0] * 20, [FULL] * 20]
NO_ROWS += [[0] * k + [number] + [0] * (7 - k) for k in range(8) for number in VERY_LARGE[2:]]
NO_ROWS += [[2 ** 64] * 8, [10 ** 30] * 8, [10 ** 30] * 20, [2 ** 64] * 7]


def places(rows):
    """The places that are 1."""
    return {(x, y) for x, y in product(range(64), range(8)) if rows[y] // 2 ** x % 2 == 1}


def rows_of(ones):
    rows = [0] * 8
    for x, y in ones:
        rows[y] += 2 ** x
    return rows


def slow_moved(dx, dy, rows):
    """Place by place, straight from the document's words."""
    a, b = divmod(dx, 64)[1], divmod(dy, 8)[1]
    return rows_of((x + a, y + b) for x, y in places(rows) if x + a <= 63 and y + b <= 7)


def chance_rows(source, share):
    return rows_of(place for place in product(range(64), range(8)) if source.random() < share)


class RowsMoved(unittest.TestCase):
    def test_ordinary(self):
        self.assertEqual(rowsmoved(0, 0, [1, 2, 3, 4, 5, 6, 7, 8]), [1, 2, 3, 4, 5, 6, 7, 8])
        self.assertEqual(rowsmoved(1, 0, [1, 2, 3, 4, 5, 6, 7, 8]), [2, 4, 6, 8, 10, 12, 14, 16])
        self.assertEqual(rowsmoved(0, 1, [1, 2, 3, 4, 5, 6, 7, 8]), [0, 1, 2, 3, 4, 5, 6, 7])
        self.assertEqual(rowsmoved(4, 3, [1, 2, 3, 4, 5, 6, 7, 8]), [0, 0, 0, 16, 32, 48, 64, 80])

    def test_one_place_to_each(self):
        for dx, dy in product(range(64), range(8)):
            self.assertEqual(rowsmoved(dx, dy, rows_of([(0, 0)])), rows_of([(dx, dy)]))

    def test_the_last_place_goes_beyond(self):
        last = rows_of([(63, 7)])
        for dx, dy in product((0, 1, 2, 62, 63), (0, 1, 6, 7)):
            self.assertEqual(rowsmoved(dx, dy, last), last if (dx, dy) == (0, 0) else NONE)
        self.assertEqual(rowsmoved(1, 0, rows_of([(62, 7), (63, 7)])), last)
        self.assertEqual(rowsmoved(0, 1, rows_of([(63, 6), (63, 7)])), last)

    def test_beyond_to_the_right_is_gone_and_not_in_the_next_row(self):
        for dx in range(1, 64):
            self.assertEqual(rowsmoved(dx, 0, [FULL] + [0] * 7), [2 ** 64 - 2 ** dx] + [0] * 7)
            self.assertEqual(rowsmoved(dx, 0, ALL), [2 ** 64 - 2 ** dx] * 8)

    def test_beyond_the_last_rows_is_gone_and_not_in_the_first(self):
        for dy in range(8):
            self.assertEqual(rowsmoved(0, dy, ALL), [0] * dy + [FULL] * (8 - dy))
        self.assertEqual(rowsmoved(0, 7, [9, 1, 1, 1, 1, 1, 1, 1]), [0] * 7 + [9])

    def test_63_and_7(self):
        self.assertEqual(rowsmoved(63, 7, ALL), rows_of([(63, 7)]))
        self.assertEqual(rowsmoved(63, 0, [1, 2, 3, FULL, 0, 4, 5, 6]), [2 ** 63 * k for k in (1, 0, 1, 1, 0, 0, 1, 0)])

    def test_64_and_8_and_more(self):
        rows = [3, 2 ** 63, FULL, 0, 5, 6, 7, 2 ** 63 + 1]
        for dx in (0, 1, 5, 63):
            for dy in (0, 1, 5, 7):
                wanted = rowsmoved(dx, dy, rows)
                self.assertEqual(wanted, slow_moved(dx, dy, rows))
                for more_x, more_y in ((64, 0), (0, 8), (64, 8), (128, 16), (6400, 800), (2 ** 64, 2 ** 64)):
                    self.assertEqual(rowsmoved(dx + more_x, dy + more_y, rows), wanted)
        self.assertEqual(rowsmoved(64, 8, rows), rows)
        self.assertEqual(rowsmoved(8, 0, [1] * 8), [256] * 8)
        self.assertEqual(rowsmoved(0, 64, [1] * 8), [1] * 8)

    def test_very_large_ways(self):
        rows = [1, 3, FULL, 2 ** 63, 9, 0, 10, 2 ** 62 + 5]
        for dx, dy in product((0, 7) + VERY_LARGE, repeat=2):
            self.assertEqual(rowsmoved(dx, dy, rows), slow_moved(dx, dy, rows), (dx, dy))

    def test_every_way_against_the_words(self):
        source = random.Random(1)
        for dx in range(0, 131):
            rows = chance_rows(source, source.choice((0.1, 0.5, 0.9)))
            for dy in (dx % 8, (dx + 3) % 17, 0):
                self.assertEqual(rowsmoved(dx, dy, rows), slow_moved(dx, dy, rows), (dx, dy))

    def test_moved_on_is_moved_by_both(self):
        source = random.Random(2)
        for k in range(60):
            rows = chance_rows(source, 0.5)
            one, two = source.randrange(40), source.randrange(24)
            low, high = source.randrange(5), source.randrange(3)
            on = rowsmoved(two, high, rowsmoved(one, low, rows))
            self.assertEqual(on, rowsmoved(one + two, low + high, rows))

    def test_nothing_moved(self):
        for dx, dy in product((0, 1, 63, 64, 10 ** 30), (0, 1, 7, 8, 10 ** 30)):
            self.assertEqual(rowsmoved(dx, dy, NONE), NONE)

    def test_no_rows(self):
        for rows in NO_ROWS:
            for dx, dy in ((0, 0), (1, 1), (63, 7), (10 ** 30, 10 ** 30)):
                self.assertEqual(rowsmoved(dx, dy, rows), [-1], rows)

    def test_a_number_too_large_that_would_go_beyond(self):
        self.assertEqual(rowsmoved(0, 1, [0] * 7 + [2 ** 64]), [-1])
        self.assertEqual(rowsmoved(0, 7, [0] + [10 ** 30] * 7), [-1])

    def test_the_largest_number(self):
        for k in range(8):
            rows = [0] * k + [FULL] + [0] * (7 - k)
            self.assertEqual(rowsmoved(0, 0, rows), rows)
            rows[k] += 1
            self.assertEqual(rowsmoved(0, 0, rows), [-1])

    def test_what_is_handed_in_is_as_it_was(self):
        for rows in (NONE, ALL, [1, 2, 3, 4, 5, 6, 7, 8], [0] * 7, [2 ** 64] * 8):
            for dx, dy in ((0, 0), (1, 0), (0, 1), (63, 7), (64, 8)):
                handed = list(rows)
                answer = rowsmoved(dx, dy, handed)
                self.assertEqual(handed, rows)
                self.assertEqual({type(number) for number in answer}, {int})
                wanted = list(answer)
                # What is answered is the caller's own.
                answer[0] = 77
                self.assertEqual((handed, rowsmoved(dx, dy, handed)), (rows, wanted))


class RowsHit(unittest.TestCase):
    def hits(self, first, second, wanted):
        self.assertEqual(rowshit(first, second), [wanted])
        self.assertEqual(rowshit(second, first), [wanted])

    def test_ordinary(self):
        self.hits([1, 2, 3, 4, 5, 6, 7, 8], [1] * 8, 4)
        self.hits([3, 0, 7, 0, 0, 0, 0, 1], [1, 9, 6, 9, 9, 9, 9, 3], 4)
        self.hits([10, 20, 30, 40, 50, 60, 70, 80], [12, 20, 3, 41, 6, 61, 70, 16], 1 + 2 + 1 + 2 + 1 + 4 + 3 + 1)

    def test_all_noughts(self):
        self.hits(NONE, NONE, 0)
        self.hits(NONE, ALL, 0)

    def test_all_ones(self):
        self.hits(ALL, ALL, 512)
        for k in range(8):
            self.hits(ALL, [0] * k + [FULL] + [0] * (7 - k), 64)

    def test_one_place_in_common(self):
        for place in product(range(64), range(8)):
            self.hits(rows_of([place]), rows_of([place]), 1)
            self.hits(rows_of([place]), ALL, 1)
        for x, y in product((0, 63), (0, 7)):
            self.hits(rows_of([(x, y), (30, 3)]), rows_of([(x, y), (31, 3)]), 1)

    def test_none_in_common(self):
        self.hits([2 ** 63] * 8, [2 ** 63 - 1] * 8, 0)
        self.hits([FULL // 3] * 8, [FULL // 3 * 2] * 8, 0)
        self.hits([FULL] * 4 + [0] * 4, [0] * 4 + [FULL] * 4, 0)
        # The same numbers, but in other rows.
        self.hits([1, 0, 1, 0, 1, 0, 1, 0], [0, 1, 0, 1, 0, 1, 0, 1], 0)
        self.hits(rows_of([(0, 7)]), rows_of([(7, 0)]), 0)

    def test_itself(self):
        source = random.Random(3)
        for k in range(20):
            rows = chance_rows(source, 0.5)
            self.hits(rows, rows, len(places(rows)))

    def test_against_the_words(self):
        source = random.Random(4)
        for k in range(150):
            first = chance_rows(source, source.choice((0.02, 0.5, 0.98)))
            second = chance_rows(source, source.choice((0.02, 0.5, 0.98)))
            self.hits(first, second, len(places(first) & places(second)))

    def test_no_rows_in_the_one_or_in_the_other(self):
        for rows in NO_ROWS:
            for good in (NONE, ALL, [1, 2, 3, 4, 5, 6, 7, 8]):
                self.hits(rows, good, -1)
            self.hits(rows, rows, -1)
            self.hits(rows, [], -1)

    def test_two_of_the_same_wrong_length(self):
        for size in (0, 1, 7, 9, 16, 20):
            self.hits([1] * size, [1] * size, -1)
        self.hits([1] * 7, [1] * 9, -1)

    def test_the_largest_number(self):
        for k in range(8):
            rows = [0] * k + [FULL] + [0] * (7 - k)
            self.hits(rows, rows, 64)
            larger = [0] * k + [FULL + 1] + [0] * (7 - k)
            self.hits(rows, larger, -1)
            self.hits(NONE, larger, -1)

    def test_what_is_handed_in_is_as_it_was(self):
        for first, second in product((NONE, ALL, [1, 2, 3, 4, 5, 6, 7, 8], [0] * 7, [2 ** 64] * 8), repeat=2):
            a, b = list(first), list(second)
            answer = rowshit(a, b)
            self.assertEqual((a, b), (first, second))
            self.assertEqual([type(number) for number in answer], [int])
            self.assertEqual(rowshit(a, b), answer)

    def test_one_list_for_both(self):
        rows = [1, 2, 3, 4, 5, 6, 7, 8]
        self.assertEqual(rowshit(rows, rows), [13])
        self.assertEqual(rows, [1, 2, 3, 4, 5, 6, 7, 8])


class MovedAndHit(unittest.TestCase):
    def test_as_often_when_both_are_moved_alike_and_nothing_goes_beyond(self):
        source = random.Random(5)
        for k in range(80):
            width, depth = source.randrange(1, 65), source.randrange(1, 9)
            corner = list(product(range(width), range(depth)))
            first, second = [rows_of(place for place in corner if source.random() < 0.6) for n in range(2)]
            hits = rowshit(first, second)
            self.assertEqual(hits, [len(places(first) & places(second))])
            for dx, dy in ((64 - width, 8 - depth), (0, 8 - depth), (64 - width, 0), (64, 8)):
                self.assertEqual(rowshit(rowsmoved(dx, dy, first), rowsmoved(dx, dy, second)), hits)

    def test_fewer_by_what_goes_beyond(self):
        source = random.Random(6)
        for k in range(80):
            first, second = chance_rows(source, 0.7), chance_rows(source, 0.7)
            dx, dy = source.randrange(64), source.randrange(8)
            stays = {(x, y) for x, y in places(first) & places(second) if x + dx < 64 and y + dy < 8}
            self.assertEqual(rowshit(rowsmoved(dx, dy, first), rowsmoved(dx, dy, second)), [len(stays)])

    def test_how_many_are_left(self):
        for dx, dy in product((0, 1, 5, 63), (0, 1, 7)):
            after = rowsmoved(dx, dy, ALL)
            self.assertEqual(rowshit(after, after), [(64 - dx) * (8 - dy)])
            self.assertEqual(rowshit(after, ALL), [(64 - dx) * (8 - dy)])

    def test_a_refusal_is_no_rows(self):
        self.assertEqual(rowshit(rowsmoved(0, 0, [0] * 7), ALL), [-1])


if __name__ == "__main__":
    unittest.main()
