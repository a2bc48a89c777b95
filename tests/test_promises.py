"""The document's promises B1 to B6 and its one sentence, each over several calls of the program."""

import inspect
import random
import unittest
from itertools import product

from brickrooms import builds
from brickrooms.builds import (at, check, clutch, group, judge, line, moved, plain, rowshit, rowsmoved, same, sizes,
                               turned)
from tests.making import (SHAPED, SHAPES, WEIGHTS, build, given, grown, grown_builds, lines_told, shifted, slow_check,
                          slow_fault, slow_groups, slow_leaves_room, slow_put, slow_same, slow_sizes, slow_spread,
                          told)

C = given(SHAPED)
NAMES = sorted(SHAPES)
BUILDS = [lines for lines in grown_builds(17, 30) if lines]


def text_of(lines):
    return given(build(*lines))


def lines_by_line(b):
    """The build's lines as line tells them one by one."""
    told_lines = [line(i, C, b) for i in range(judge(C, b)[0])]
    return [(NAMES[number], x, y, z, turns, colour) for number, colour, x, y, z, turns in told_lines]


def groups_of(b):
    return [group(i, C, b)[0] for i in range(judge(C, b)[0])]


def clutches_of(b):
    count = judge(C, b)[0]
    return {(i, j): clutch(i, j, C, b)[0] for i, j in product(range(count), repeat=2)}


def answered(b):
    """Texts that are answered of this build: moved, turned, made plain, and of those some again."""
    texts = [turned(r, C, b) for r in range(4)] + [plain(C, b), moved(0, 0, 0, C, b)]
    texts += [moved(5, 6, 7, C, texts[1][1:]), plain(C, texts[3][1:])]
    return texts


def crowd(source):
    """Lines that may or may not make a right build: grown ones, and some thrown among them."""
    lines = grown(source, (0, 0, 0), 5, 12)
    for k in range(source.randrange(3)):
        place = [source.choice((0, 1, 2, 3, 4, 5, 63)) for axis in range(3)]
        # Studs below a frame are not in tubes.
        put = (source.choice(NAMES + ["frame"] * 16), *place, source.randrange(4), source.randrange(256))
        lines.insert(source.randrange(len(lines) + 1), put)
    return lines


CROWDS = [crowd(random.Random(seed)) for seed in range(120)]


class Interface(unittest.TestCase):
    CALLS = {
        "judge": "c b", "check": "c b", "line": "i c b", "sizes": "c b", "at": "x y z c b", "clutch": "i j c b",
        "group": "i c b", "moved": "dx dy dz c b", "turned": "r c b", "plain": "c b", "same": "c b d",
        "rowsmoved": "dx dy l", "rowshit": "a b",
    }

    def test_names_and_arguments(self):
        for name, arguments in self.CALLS.items():
            parameters = inspect.signature(getattr(builds, name)).parameters
            self.assertEqual(" ".join(parameters), arguments, name)
            self.assertEqual({p.default for p in parameters.values()}, {inspect.Parameter.empty}, name)

    def test_arguments_by_name(self):
        b = given("build a\nput pin 7 1 2 3 0\n")
        handed = {"c": C, "b": b, "d": b, "i": 0, "j": 0, "x": 1, "y": 2, "z": 3, "dx": 0, "dy": 0, "dz": 0, "r": 0,
                  "l": [1] * 8, "a": [1] * 8}
        home = told("build a\nput pin 7 0 0 0 0\n")
        wanted = {"judge": [1], "check": [0], "line": [5, 7, 1, 2, 3, 0], "sizes": [1, 1, 0, 1, 16, 4], "at": [0],
                  "clutch": [0], "group": [0], "moved": [len(b)] + b, "turned": home, "plain": home, "same": [0],
                  "rowsmoved": [1] * 8, "rowshit": [8]}
        for name, arguments in self.CALLS.items():
            values = {word: handed[word] for word in arguments.split(" ")}
            if name == "rowshit":
                values["b"] = [1] * 8
            self.assertEqual(getattr(builds, name)(**values), wanted[name], name)


class OneText(unittest.TestCase):
    """B1."""

    def test_a_build_has_one_text(self):
        for lines in CROWDS:
            b = text_of(lines)
            self.assertEqual(judge(C, b), [len(lines)])
            self.assertEqual(lines_by_line(b), lines)

    def test_answered_texts_are_read_again(self):
        for lines in BUILDS[:10]:
            for answer in answered(text_of(lines)):
                self.assertEqual(answer[0], len(answer[1:]))
                again = lines_by_line(answer[1:])
                self.assertEqual(again, lines_told(answer))
                self.assertEqual(moved(0, 0, 0, C, answer[1:]), answer)
                self.assertEqual(told(build(*again)), answer)

    def test_a_text_that_is_none_has_one_fault(self):
        source = random.Random(1)
        seen = [0, 0]
        for lines in BUILDS[:12]:
            answer = turned(1, C, text_of(lines[:2]))
            for k in range(6):
                spoilt = list(answer[1:])
                spoilt[source.randrange(len(spoilt))] = source.choice(given("put ab0159\n"))
                fault = slow_fault("".join(chr(byte) for byte in spoilt), NAMES)
                seen[fault is None] += 1
                if fault is not None:
                    self.assertEqual(judge(C, spoilt), [-5, fault])
                    self.assertEqual([check(C, spoilt), plain(C, spoilt), same(C, answer[1:], spoilt)], [[-5]] * 3)
                else:
                    self.assertEqual(told(build(*lines_by_line(spoilt))), [len(spoilt)] + spoilt)
        self.assertGreater(min(seen), 5)

    def test_the_first_thing_wrong(self):
        seen = []
        for lines in CROWDS:
            answer = check(C, text_of(lines))
            self.assertEqual(answer, slow_check(SHAPES, lines))
            if answer != [0]:
                refusal, what, j, i = answer
                seen.append(what)
                self.assertEqual(check(C, text_of(lines[:j])), [0])
                self.assertEqual(check(C, text_of(lines[:j + 1])), answer)
                alone = [lines[i], lines[j]] if what > 1 else [lines[j]]
                self.assertEqual(check(C, text_of(alone))[:2], [-9, what])
        for what in (1, 2, 3):
            self.assertGreater(seen.count(what), 5)


class OnePartAtMost(unittest.TestCase):
    """B2."""

    def test_each_cell_is_of_one_line(self):
        for lines in BUILDS[:8]:
            for answer in (told(build(*lines[:6])), turned(1, C, text_of(lines[:6])), plain(C, text_of(lines[:6]))):
                b = answer[1:]
                spread = slow_spread(SHAPES, lines_told(answer))
                self.assertEqual(sizes(C, b)[1], sum(len(cells) for cells in spread))
                self.assertEqual(sizes(C, b)[1], len({place for cells in spread for place in cells}))
                for i, cells in enumerate(spread):
                    self.assertEqual({at(*place, C, b)[0] for place in cells}, {i})

    def test_each_stud_is_in_a_tube_or_free(self):
        free = held = 0
        for lines in BUILDS[8:16]:
            answer = turned(3, C, text_of(lines))
            b = answer[1:]
            spread = slow_spread(SHAPES, lines_told(answer))
            counts = dict.fromkeys(product(range(len(spread)), repeat=2), 0)
            for i, cells in enumerate(spread):
                for (x, y, z), sign in cells.items():
                    over = at(x, y, z + 1, C, b)[0] if sign in "sb" else -3
                    if over >= 0:
                        self.assertIn(spread[over][x, y, z + 1], "tb")
                        counts[i, over] += 1
                        held += 1
                    else:
                        free += sign in "sb"
            self.assertEqual(clutches_of(b), counts)
            self.assertEqual(sizes(C, b)[2], sum(counts.values()))
        self.assertGreater(min(free, held), 10)

    def test_a_line_amid_another_makes_it_wrong(self):
        for lines in BUILDS:
            for answer in (turned(2, C, text_of(lines)), plain(C, text_of(lines))):
                twice = lines_told(answer)
                self.assertEqual(check(C, text_of(twice + twice[-1:])), [-9, 2, len(twice), len(twice) - 1])


class Groups(unittest.TestCase):
    """B3."""

    def test_they_part_the_lines(self):
        for lines in BUILDS[:10]:
            for answer in (turned(1, C, text_of(lines)), plain(C, text_of(lines))):
                b = answer[1:]
                groups = groups_of(b)
                self.assertEqual(groups, slow_groups(SHAPES, lines_told(answer)))
                self.assertEqual(len(set(groups)), sizes(C, b)[3])
                for least in set(groups):
                    self.assertEqual(groups.index(least), least)
                for (i, j), count in clutches_of(b).items():
                    if groups[i] != groups[j]:
                        self.assertEqual(count, 0)

    def test_a_group_by_itself_is_one(self):
        for lines in BUILDS[10:20]:
            groups = groups_of(text_of(lines))
            for least in set(groups):
                alone = text_of([put for put, own in zip(lines, groups) if own == least])
                self.assertEqual((check(C, alone), sizes(C, alone)[3]), ([0], 1))


class AsRight(unittest.TestCase):
    """B4."""

    def test_moved_turned_made_plain(self):
        for lines in BUILDS:
            before = sizes(C, text_of(lines))
            self.assertEqual(before, slow_sizes(SHAPES, WEIGHTS, lines))
            for answer in answered(text_of(lines)):
                self.assertEqual(check(C, answer[1:]), [0])
                self.assertEqual(sizes(C, answer[1:])[:5], before[:5])

    def test_lines_hold_on_as_they_did(self):
        for k, lines in enumerate(BUILDS[:10]):
            b = text_of(lines)
            far = moved(k, 2 * k, 3 * k, C, turned(k % 4, C, b)[1:])
            self.assertEqual((clutches_of(far[1:]), groups_of(far[1:])), (clutches_of(b), groups_of(b)))
            # Made plain, the lines are in another order: as many clutches of each size between the same parts.
            pairs = []
            for text in (b, plain(C, far[1:])[1:]):
                words = [put[:1] + put[5:] for put in lines_by_line(text)]
                pairs.append(sorted((words[i], words[j], count) for (i, j), count in clutches_of(text).items()))
            self.assertEqual(pairs[0], pairs[1])

    def test_turned_four_times_it_is_home_as_it_was(self):
        for k, lines in enumerate(BUILDS):
            home = turned(0, C, text_of(lines))
            after = home
            for turn in range(4):
                after = turned(1, C, after[1:])
            self.assertEqual(after, home)
            for r in range(4):
                self.assertEqual(turned((4 - r) % 4, C, turned(r, C, text_of(lines))[1:]), home)
            way = [min(put[axis] for put in lines) for axis in (1, 2, 3)]
            self.assertEqual(moved(*way, C, home[1:]), told(build(*lines)))


class TheSame(unittest.TestCase):
    """B5."""

    def test_all_that_is_made_from_a_build_is_the_same_as_it(self):
        source = random.Random(2)
        for lines in BUILDS[:12]:
            mixed = source.sample(lines, len(lines))
            texts = [answer[1:] for answer in answered(text_of(mixed))] + [text_of(lines)]
            for b in texts:
                self.assertGreaterEqual(same(C, text_of(lines), b)[0], 0)
                self.assertGreaterEqual(same(C, b, text_of(lines))[0], 0)

    def test_by_how_many_turns(self):
        for k, lines in enumerate(BUILDS):
            b = text_of(lines)
            for r in range(4):
                d = plain(C, moved(1, 2, 3, C, turned(r, C, b)[1:])[1:])[1:]
                least = same(C, b, d)[0]
                self.assertEqual([least], slow_same(SHAPES, lines, lines_told([len(d)] + d)))
                self.assertLessEqual(least, r)
                self.assertEqual(plain(C, turned(least, C, b)[1:])[1:], d)

    def test_mutual_and_from_build_to_build(self):
        sorts = [[("pin", 0, 0, 0, 0, 1), ("pin", 2, 0, 0, 0, 1)], [("ell", 0, 0, 0, 0, 1)], [("beam", 0, 0, 0, 0, 1)],
                 [("pin", 0, 0, 0, 0, 1), ("pin", 2, 0, 0, 0, 2)], [("pin", 0, 0, 0, 0, 1)], []]
        texts = [turned(r, C, text_of(lines))[1:] for lines in sorts for r in (0, 1, 3)]
        told_same = {(i, j): same(C, b, d)[0] >= 0 for (i, b), (j, d) in product(enumerate(texts), repeat=2)}
        for (i, j), first in told_same.items():
            self.assertEqual(first, i // 3 == j // 3)
            self.assertEqual(told_same[j, i], first)
            for k in range(len(texts)):
                if first and told_same[j, k]:
                    self.assertTrue(told_same[i, k])


class EightRows(unittest.TestCase):
    """B6. The cells of a build's lines at one height, as eight rows; of lines all of whose cells have y below 8."""

    LAYERS = [[put for put in lines_told(turned(0, C, text_of(lines))) if put[2] < 5] for lines in BUILDS]

    def rows(self, cells, height):
        rows = [0] * 8
        for x, y, z in cells:
            if z == height:
                rows[y] += 2 ** x
        return rows

    def test_two_lines_hit_just_if_they_have_a_place_in_common(self):
        seen = [0, 0]
        source = random.Random(3)
        for k in range(150):
            first, second = [(source.choice(NAMES), source.randrange(4), source.randrange(4), 0, source.randrange(4))
                             for n in range(2)]
            spread = slow_spread(SHAPES, [first, second])
            hits = sum(rowshit(self.rows(spread[0], z), self.rows(spread[1], z))[0] for z in range(4))
            seen[hits > 0] += 1
            self.assertEqual(hits > 0, check(C, text_of([first, second]))[:2] == [-9, 2])
        self.assertGreater(min(seen), 30)

    def test_in_a_right_build_no_two_lines_hit(self):
        for lines in self.LAYERS[:10]:
            self.assertEqual(check(C, text_of(lines)), [0])
            spread = slow_spread(SHAPES, lines)
            for z in range(3):
                rows = [self.rows(cells, z) for cells in spread]
                for i, j in product(range(len(rows)), repeat=2):
                    wanted = len([place for place in spread[i] if place[2] == z]) if i == j else 0
                    self.assertEqual(rowshit(rows[i], rows[j]), [wanted])

    def test_rows_are_moved_as_the_build_is(self):
        for lines in self.LAYERS[:10]:
            b = text_of(lines)
            before = {place for cells in slow_spread(SHAPES, lines) for place in cells}
            for dx, dy, z in product((0, 1, 20), (0, 1), (0, 1)):
                answer = moved(dx, dy, 0, C, b)
                after = {place for cells in slow_spread(SHAPES, lines_told(answer)) for place in cells}
                within = [place for place in after if place[1] < 8]
                self.assertEqual(rowsmoved(dx, dy, self.rows(before, z)), self.rows(within, z))

    def test_hit_as_often_when_both_are_moved_alike(self):
        for k, lines in enumerate(self.LAYERS[:-1]):
            both = [{place for cells in slow_spread(SHAPES, some) for place in cells if place[1] < 7}
                    for some in (lines, self.LAYERS[k + 1])]
            first, second = [self.rows(places, 0) for places in both]
            hits = rowshit(first, second)
            self.assertEqual(hits, [len([place for place in both[0] & both[1] if place[2] == 0])])
            self.assertEqual(rowshit(rowsmoved(50, 1, first), rowsmoved(50, 1, second)), hits)


class TheOneSentence(unittest.TestCase):
    """MAIN."""

    def test_told_right_just_if_it_is_and_then_as_right_moved_and_turned(self):
        seen = [0, 0]
        for lines in CROWDS:
            b = text_of(lines)
            right = slow_check(SHAPES, lines) == [0]
            seen[right] += 1
            if right:
                for r in range(4):
                    after = turned(r, C, b)
                    far = moved(3, 2, 1, C, after[1:])
                    beyond = shifted(lines_told(after), (3, 2, 1))
                    self.assertEqual(far == [-3], any(slow_leaves_room(slow_put(SHAPES, put)[0]) for put in beyond))
                    for answer in (after, after if far == [-3] else far):
                        self.assertEqual(slow_check(SHAPES, lines_told(answer)), [0])
                        self.assertEqual(check(C, answer[1:]), [0])
            self.assertEqual(check(C, b) == [0], right)
            self.assertEqual([turned(1, C, b) == [-9], plain(C, b) == [-9], same(C, b, b) == [-9]], [not right] * 3)
        self.assertGreater(min(seen), 20)

    def test_a_build_that_is_not_right_is_as_wrong_wherever_it_is(self):
        kept = 0
        for lines in CROWDS:
            wrong = check(C, text_of(lines))
            after = shifted(lines, (1, 1, 1))
            if wrong[1:2] in ([2], [3]) and not any(max(slow_put(SHAPES, put)[0]) > 63 for put in after):
                kept += 1
                self.assertEqual(check(C, text_of(after)), wrong)
        self.assertGreater(kept, 10)

    def test_told_the_same_just_if_a_turn_and_a_move_take_one_to_the_other(self):
        source = random.Random(4)
        small = []
        for k in range(10):
            lines = [put[:5] + (source.randrange(2),) for put in grown(source, (3, 3, 0), 3, 3)]
            after = lines_told(moved(1, 2, 3, C, turned(source.randrange(4), C, text_of(lines))[1:]))
            small += [lines, source.sample(after, len(after)), after[:-1], shifted(after[:1], (0, 0, 1)) + after[1:]]
            # Some parts are alike when turned: then the line is told otherwise, but is where it was.
            small += [[put[:4] + ((put[4] + turns) % 4, put[5]) for put in after] for turns in (1, 2)]
        small += [[("pin", 0, 1, 0, turns, 0), ("beam", 0, 0, 0, 2 * turns % 4, 0)] for turns in range(4)]
        small = [lines for lines in small if slow_check(SHAPES, lines) == [0]]
        seen = []
        for first, second in product(small, repeat=2):
            wanted = slow_same(SHAPES, first, second)
            seen.append(wanted[0])
            self.assertEqual(same(C, text_of(first), text_of(second)), wanted, (first, second))
        self.assertEqual(set(seen), {-3, 0, 1, 2, 3})


if __name__ == "__main__":
    unittest.main()
