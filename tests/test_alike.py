"""alike: the least motion that takes one shape to another, and what is refused; together with moved."""

import random

from signlists.lists import alike, judge, moved, next_of
from tests.drawing import DUE, both, drawn, drawn_by_lot, least_motion, listed, undoing, written
from tests.helpers import CallCase, LAST, NO_LISTS, many_signs, text

# Shapes that some motions take to themselves: behind each, the least motion in the place of each of the eight.
SOME_TO_ITSELF = (
    ("#/", (0, 0, 0, 0, 0, 0, 0, 0)),
    ("###/#.#/###/", (0, 0, 0, 0, 0, 0, 0, 0)),
    ("###/", (0, 1, 0, 1, 0, 1, 0, 1)),
    ("#/#/", (0, 1, 0, 1, 0, 1, 0, 1)),
    ("#./.#/", (0, 1, 0, 1, 1, 0, 1, 0)),
    (".#./###/", (0, 1, 2, 3, 0, 1, 2, 3)),
    ("#./##/#./", (0, 1, 2, 3, 2, 3, 0, 1)),
    ("##/#./", (0, 1, 2, 3, 1, 2, 3, 0)),
    ("##/.#/", (0, 1, 2, 3, 3, 0, 1, 2)),
    ("##./.##/", (0, 1, 0, 1, 4, 5, 4, 5)),
    ("#.##/###./.###/##.#/", (0, 0, 0, 0, 4, 4, 4, 4)),
    ("###./.###/", (0, 1, 0, 1, 4, 5, 4, 5)),
)
# Where each motion takes cell (3, 5) of a shape of 32 by 32.
HOLLOWS = ((3, 5), (26, 3), (28, 26), (5, 28), (28, 5), (26, 28), (3, 26), (5, 3))
# Groups of shapes with the same ink and, but for the first group, the same width and height, of which no two are alike.
UNLIKE = (
    ("####/", "##/##/", "###/#../", "###/.#./", "##./.##/", "#..#/#..#/", "#.#/.../#.#/"),
    ("###/#../", "###/.#./", "##./.##/", "#.#/#.#/"),
    ("##./#../#.#/", "##./#../.##/", "###/#../#../", "##./.#./.##/", ".#./###/.#./"),
    ("##.#/", "###/", "#.##.#/"),
)


class Alike(CallCase):
    def assert_alike(self, shape, other, motion):
        """Check the answer wherever the two signs stand in the list; None is for a refusal."""
        answer = [-5] if motion is None else [motion]
        self.assertEqual(self.likened(0, 1, listed([shape, other])), answer, (shape, other))
        self.assertEqual(self.likened(1, 0, listed([other, shape])), answer, (shape, other))
        self.assertEqual(self.likened(3, 1, listed(["#/", other, "##/", shape])), answer, (shape, other))

    def test_each_motion_is_the_least_one_of_a_pair(self):
        for due in DUE:
            for m in range(8):
                self.assert_alike(due[0], due[m], m)
                self.assert_alike(due[m], due[0], undoing(m))

    def test_between_any_two_of_eight(self):
        for due in DUE:
            t = listed(due)
            for first in range(8):
                for motion in range(8):
                    self.assertEqual(self.likened(first, both(first, motion), t), [motion])

    def test_the_least_of_several(self):
        for shape, least in SOME_TO_ITSELF:
            for m in range(8):
                t = text(listed([shape]))
                other = "".join("/" if byte == 10 else chr(byte) for byte in moved(0, m, t)[1:])
                self.assert_alike(shape, other, least[m])

    def test_a_sign_with_itself(self):
        shapes = [due[m] for due in DUE for m in range(8)] + [shape for shape, least in SOME_TO_ITSELF]
        t = listed(shapes)
        for number in range(len(shapes)):
            self.assertEqual(self.likened(number, number, t), [0])

    def test_two_signs_of_the_same_shape(self):
        for shape, least in SOME_TO_ITSELF:
            self.assert_alike(shape, shape, 0)

    def test_the_same_ink_but_not_alike(self):
        for group in UNLIKE:
            for shape in group:
                for other in group:
                    self.assert_alike(shape, other, 0 if shape == other else None)

    def test_another_width_or_height(self):
        self.assert_alike("#/", "##/", None)
        self.assert_alike("##/", "###/", None)
        self.assert_alike("##/", "#/#/#/", None)
        self.assert_alike("##/##/", "##/##/##/", None)
        self.assert_alike("###/###/", "##/##/", None)
        self.assert_alike("##./#.#/", "##../#..#/", None)

    def test_the_same_bytes_in_other_rows(self):
        self.assert_alike("##/##/", "####/", None)
        self.assert_alike("#.##/", "#./##/", None)
        self.assert_alike("#.##/", "#/./#/#/", 1)

    def test_wide_ones_against_high_ones(self):
        self.assert_alike("#" * 32 + "/", "#/" * 32, 1)
        self.assert_alike("#/" * 32, "#" * 32 + "/", 1)
        row = "###" + "." * 28 + "#"
        self.assert_alike(row + "/", written(row), 1)
        self.assert_alike(row + "/", written(row[::-1]), 3)
        self.assert_alike(written(row), row + "/", 3)
        self.assert_alike(written(row), row[::-1] + "/", 1)
        self.assert_alike(row + "/", row[::-1] + "/", 2)
        self.assert_alike("#" * 32 + "/", "#/" * 31, None)
        self.assert_alike("#" * 31 + "/" + "#" * 31 + "/", "##/" * 31, 1)
        self.assert_alike("#" * 31 + "/" + "#" * 31 + "/", "##/" * 30 + "#./", None)

    def test_large_ones_that_differ_in_one_cell(self):
        full = written(["#" * 32] * 32)
        hollow = [written(drawn(32, 32, lambda x, y: (x, y) != place)) for place in HOLLOWS]
        for m in range(8):
            self.assert_alike(hollow[0], hollow[m], m)
            self.assert_alike(hollow[m], full, None)
            self.assert_alike(full, hollow[m], None)
        beside = written(drawn(32, 32, lambda x, y: (x, y) != (4, 5)))
        self.assert_alike(hollow[0], beside, None)

    def test_name_and_sounds_do_not_matter(self):
        t = "sign A1 a b/##./#.#/sign Q9z/##/.#/#./sign Zz999z b a zzz/##./#.#/"
        self.assertEqual(self.likened(0, 1, t), [1])
        self.assertEqual(self.likened(1, 0, t), [3])
        self.assertEqual(self.likened(0, 2, t), [0])
        self.assertEqual(self.likened(2, 1, t), [1])


class OverWholeLists(CallCase):
    def lists_by_lot(self):
        """Give lists of shapes, many of them alike."""
        source = random.Random(7)
        for most in (2, 3, 3, 4, 32):
            by_lot = [written(drawn_by_lot(source, most, 0.6)) for _ in range(10)]
            yield by_lot + [source.choice(source.choice(DUE)) for _ in range(4)]
        for due in DUE:
            yield list(due) + [source.choice(due) for _ in range(4)]

    def answers(self, shapes):
        t = text(listed(shapes))
        numbers = range(len(shapes))
        return {(i, j): self.call(alike, i, j, t)[0] for i in numbers for j in numbers}

    def test_as_told_by_the_second_moving(self):
        for shapes in self.lists_by_lot():
            for (i, j), answer in self.answers(shapes).items():
                least = least_motion(shapes[i], shapes[j])
                self.assertEqual(answer, -5 if least is None else least, (shapes[i], shapes[j]))

    def test_both_ways(self):
        for shapes in self.lists_by_lot():
            answers = self.answers(shapes)
            for i, j in answers:
                self.assertEqual(answers[i, j] == -5, answers[j, i] == -5, (shapes[i], shapes[j]))

    def test_going_on(self):
        chains = 0
        for shapes in self.lists_by_lot():
            answers = self.answers(shapes)
            alike_pairs = [pair for pair in answers if answers[pair] != -5]
            for i, j in alike_pairs:
                for k in range(len(shapes)):
                    if answers[j, k] != -5:
                        self.assertNotEqual(answers[i, k], -5, (shapes[i], shapes[j], shapes[k]))
                        chains += len({i, j, k}) == 3
        self.assertGreater(chains, 1000)

    def test_the_motion_told_gives_the_other_ones_rows_and_no_lesser_one_does(self):
        for shapes in self.lists_by_lot():
            t = text(listed(shapes))
            by_each = [[moved(i, m, t) for m in range(8)] for i in range(len(shapes))]
            for (i, j), answer in self.answers(shapes).items():
                wanted = by_each[j][0]
                self.assertEqual(wanted in by_each[i], answer != -5)
                if answer != -5:
                    self.assertEqual(by_each[i].index(wanted), answer)


class Refusals(CallCase):
    def test_numbers_at_the_edges(self):
        for signs in (1, 2, 512):
            t = many_signs(signs)
            there = (0, signs - 1)
            not_there = (signs, signs + 1, 65536, LAST - 1, LAST)
            for i in there:
                self.assertEqual(self.likened(i, there[0], t), [0])
                self.assertEqual(self.likened(i, there[1], t), [0])
                for j in not_there:
                    self.assertEqual(self.likened(i, j, t), [-4], (i, j))
                    self.assertEqual(self.likened(j, i, t), [-4], (j, i))

    def test_both_are_not_there(self):
        for i in (2, 3, LAST):
            for j in (2, 3, LAST):
                self.assertEqual(self.likened(i, j, "sign A1/#/sign A2/##/"), [-4])

    def test_a_sign_that_is_not_there_is_not_one_that_is_unlike(self):
        t = "sign A1/#/sign A2/##/"
        self.assertEqual(self.likened(0, 1, t), [-5])
        self.assertEqual(self.likened(1, 0, t), [-5])
        for j in (2, LAST):
            self.assertEqual(self.likened(0, j, t), [-4])
            self.assertEqual(self.likened(1, j, t), [-4])
            self.assertEqual(self.likened(j, 0, t), [-4])
            self.assertEqual(self.likened(j, 1, t), [-4])

    def test_no_right_list_before_all_else(self):
        for t in NO_LISTS + (many_signs(513), "sign A1/#/sign A2/##/sign A3/#"):
            for i in (0, 1, 2, LAST):
                for j in (0, 1, 512, LAST):
                    self.assertEqual(self.likened(i, j, t), [-6], t)

    def test_texts_of_one_byte(self):
        for byte in range(256):
            self.assertEqual(self.likened(0, 0, [byte]), [-6])

    def test_long_texts(self):
        for i, j in ((0, 0), (0, LAST), (LAST, 0)):
            self.assertEqual(self.likened(i, j, [35] * 1048577), [-2])
        self.assertEqual(self.likened(LAST, LAST, [35] * 1048576), [-6])


class NothingIsKept(CallCase):
    def test_calls_among_one_another(self):
        one, two = text("sign A1/##/#./sign A2/.#/##/"), text("sign A1/##/#./sign A2/##/")
        for _ in range(3):
            self.assertEqual(alike(0, 1, one), [2])
            self.assertEqual(alike(0, 1, two), [-5])
            self.assertEqual(next_of(0, two), [-5])
            self.assertEqual(next_of(0, one), [1])
            self.assertEqual(alike(1, 1, two), [0])
            self.assertEqual(alike(0, 2, two), [-4])
            self.assertEqual(alike(0, 1, two[:-1]), [-6])
            self.assertEqual(judge(one), [2])

    def test_an_answer_is_the_callers_own(self):
        t = text("sign A1/##/#./sign A2/.#/##/sign A3/#/")
        for numbers in ((0, 1), (0, 2), (0, 3)):
            first = alike(*numbers, t)
            kept = list(first)
            first[0] = 7
            first.append(7)
            self.assertEqual(alike(*numbers, t), kept)
