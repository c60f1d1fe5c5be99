"""next_of: the next sign that is alike, and what is refused; together with alike."""

import random

from signlists.lists import alike, next_of
from tests.drawing import DUE, drawn_by_lot, least_motion, listed, written
from tests.helpers import CallCase, LAST, NO_LISTS, many_signs, text


class NextOf(CallCase):
    def assert_next(self, shapes, following):
        """Check the answer for each sign of the list; None is for a refusal."""
        for number, due in enumerate(following):
            answer = [-5] if due is None else [due]
            self.assertEqual(self.following(number, listed(shapes)), answer, (shapes, number))

    def test_the_only_sign(self):
        self.assert_next(["#/"], [None])
        self.assert_next(["##./#.#/"], [None])

    def test_the_next_one(self):
        self.assert_next(["#/", "#/"], [1, None])
        self.assert_next(["#/", "#/", "#/"], [1, 2, None])

    def test_signs_that_are_not_alike_between(self):
        self.assert_next(["##/", "#/", "###/", "#/#/"], [3, None, None, None])
        self.assert_next(["##/#./", "###/#../", "##/##/", "#./##/", "###/", ".#/##/"], [3, None, None, 5, None, None])
        self.assert_next(["#/", "##/", "#/", "#/#/", "#/"], [2, 3, 4, None, None])

    def test_one_below_but_none_above(self):
        self.assert_next(["##/", "#/#/", "#/"], [1, None, None])
        self.assert_next(["#/", "##/", "#/", "###/"], [2, None, None, None])

    def test_none_at_all(self):
        self.assert_next(["#/", "##/", "###/", "##/##/", "##/#./"], [None] * 5)

    def test_by_each_motion(self):
        for due in DUE:
            for m in range(8):
                self.assert_next([due[0], "#/", "##/##/", due[m]], [3, None, None, None])
                self.assert_next([due[m], "#/", due[0], due[m]], [2, None, 3, None])
            self.assert_next(due, [1, 2, 3, 4, 5, 6, 7, None])

    def test_the_least_number_not_the_least_motion(self):
        for due in DUE:
            self.assert_next([due[0], due[7], due[0], due[1]], [1, 2, 3, None])

    def test_the_same_ink_but_not_alike(self):
        self.assert_next(["###/#../", "###/.#./", "##./.##/", "##/##/", "####/"], [None] * 5)
        self.assert_next(["###/#../", "###/.#./", "##/##/", ".##/##./", "##/.#/.#/"], [4, None, None, None, None])

    def test_in_a_full_list(self):
        full = many_signs(512)
        for number in (0, 1, 255, 509, 510):
            self.assertEqual(self.following(number, full), [number + 1])
        self.assertEqual(self.following(511, full), [-5])
        ends = listed(["##/"] + ["#/"] * 510 + ["#/#/"])
        self.assertEqual(self.following(0, ends), [511])
        self.assertEqual(self.following(1, ends), [2])
        self.assertEqual(self.following(510, ends), [-5])
        self.assertEqual(self.following(511, ends), [-5])

    def test_name_and_sounds_do_not_matter(self):
        t = "sign A1 a b/##/sign A1a a b/#/sign Q9z c/#/#/sign Zz999z/##/"
        self.assertEqual(self.following(0, t), [2])
        self.assertEqual(self.following(2, t), [3])
        self.assertEqual(self.following(1, t), [-5])


class TogetherWithAlike(CallCase):
    def lists_by_lot(self):
        source = random.Random(8)
        for most in (1, 2, 3, 3, 4, 32):
            shapes = [written(drawn_by_lot(source, most, 0.6)) for _ in range(12)]
            shapes += [source.choice(source.choice(DUE)) for _ in range(8)]
            source.shuffle(shapes)
            yield shapes

    def test_the_least_above_of_which_alike_is_not_refused(self):
        for shapes in self.lists_by_lot():
            t = text(listed(shapes))
            for i in range(len(shapes)):
                above = [j for j in range(i + 1, len(shapes)) if alike(i, j, t) != [-5]]
                self.assertEqual(self.following(i, t), above[:1] or [-5])

    def test_as_told_by_the_second_moving(self):
        for shapes in self.lists_by_lot():
            for i in range(len(shapes)):
                above = [j for j in range(i + 1, len(shapes)) if least_motion(shapes[i], shapes[j]) is not None]
                self.assertEqual(self.following(i, listed(shapes)), above[:1] or [-5])

    def test_from_one_to_the_next_all_that_are_alike_are_met(self):
        for shapes in self.lists_by_lot():
            t = text(listed(shapes))
            for i in range(len(shapes)):
                met = [i]
                while next_of(met[-1], t) != [-5]:
                    met += next_of(met[-1], t)
                self.assertEqual(met, [j for j in range(i, len(shapes)) if alike(i, j, t) != [-5]])


class Refusals(CallCase):
    def test_numbers_at_the_edges(self):
        for signs in (1, 2, 512):
            t = many_signs(signs)
            self.assertEqual(self.following(0, t), [1] if signs > 1 else [-5])
            self.assertEqual(self.following(signs - 1, t), [-5])
            for i in (signs, signs + 1, 65536, LAST - 1, LAST):
                self.assertEqual(self.following(i, t), [-4], i)

    def test_no_right_list_before_all_else(self):
        for t in NO_LISTS + (many_signs(513), "sign A1/#/sign A2/#/sign A3/#"):
            for i in (0, 1, 2, 512, LAST):
                self.assertEqual(self.following(i, t), [-6], t)

    def test_texts_of_one_byte(self):
        for byte in range(256):
            self.assertEqual(self.following(0, [byte]), [-6])

    def test_long_texts(self):
        for i in (0, LAST):
            self.assertEqual(self.following(i, [35] * 1048577), [-2])
        self.assertEqual(self.following(LAST, [35] * 1048576), [-6])
