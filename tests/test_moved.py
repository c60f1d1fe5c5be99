"""moved: the rows of a shape by each of the eight motions, and what is refused."""

import random

from signlists.lists import judge, moved, size, sound
from tests import drawing
from tests.drawing import DUE, both, drawn, drawn_by_lot, is_shape, rows_of, undoing, written
from tests.helpers import CallCase, LAST, NO_LISTS, many_signs, text


def lone_cell_at_the_right(x, y):
    """Ink in the first column and row, and one cell with ink in the last column: no motion takes it to itself."""
    return x == 0 or y == 0 and x < 16 or (x, y) == (31, 5)


class MovedCase(CallCase):
    def moved_rows(self, rows, m):
        """Give the rows of a shape moved by motion m, as the call tells them; each is a text of # and . here."""
        answer = self.call(moved, 0, m, "sign A1 a/" + written(rows))
        self.assertEqual(answer[0], len(answer) - 1)
        told = bytes(answer[1:]).decode("ascii")
        self.assertEqual(told[-1], "\n")
        return told[:-1].split("\n")

    def assert_all_motions(self, rows, due):
        """Check the rows that are due by the motions 0 to 7."""
        for m in range(8):
            self.assertEqual(self.moved_rows(rows, m), due[m], (rows, m))


class Moved(MovedCase):
    def test_all_eight_motions(self):
        for due in DUE:
            self.assertEqual(len(set(due)), 8)
            for m in range(8):
                self.assertEqual(self.moved(0, m, "sign A1/" + due[0]), [len(due[m])] + text(due[m]), (due[0], m))

    def test_each_sign_of_a_list(self):
        t = "".join(f"sign A{k + 1} a b/{due[0]}" for k, due in enumerate(DUE))
        for k, due in enumerate(DUE):
            for m in range(8):
                self.assertEqual(self.moved(k, m, t), [len(due[m])] + text(due[m]), (k, m))

    def test_one_cell(self):
        self.assert_all_motions(["#"], [["#"]] * 8)

    def test_one_row_and_one_column(self):
        for length in (2, 3, 31, 32):
            across = ["#" * length]
            down = ["#"] * length
            self.assert_all_motions(across, [across, down] * 4)
            self.assert_all_motions(down, [down, across] * 4)

    def test_one_row_and_one_column_that_are_not_the_same_backwards(self):
        row = "#" * 3 + "." * 28 + "#"
        across, across_back = [row], [row[::-1]]
        down, down_back = list(row), list(row[::-1])
        self.assert_all_motions(across, [across, down, across_back, down_back, across_back, down_back, across, down])
        self.assert_all_motions(down, [down, across_back, down_back, across, down, across_back, down_back, across])

    def test_32_by_32(self):
        full = ["#" * 32] * 32
        self.assert_all_motions(full, [full] * 8)
        rows = drawn(32, 32, lone_cell_at_the_right)
        due = [drawing.moved(rows, m) for m in range(8)]
        self.assertEqual(len(set(map(tuple, due))), 8)
        self.assert_all_motions(rows, due)
        # The lone cell, 31 from the left and 5 from the top, by each motion as (x, y).
        alone = ((31, 5), (26, 31), (0, 26), (5, 0), (0, 5), (26, 0), (31, 26), (5, 31))
        for m, (x, y) in enumerate(alone):
            self.assertEqual(self.moved_rows(rows, m)[y][x], "#")

    def test_wide_and_high(self):
        for width, height in ((32, 2), (2, 32), (31, 3), (3, 31), (5, 4), (4, 5), (32, 31), (31, 32)):
            rows = drawn(width, height, lambda x, y: x == 0 or y == 0 and x != 1 or (x * y) % 5 == 2)
            for m in range(8):
                told = self.moved_rows(rows, m)
                self.assertEqual(told, drawing.moved(rows, m))
                self.assertEqual((len(told[0]), len(told)), (height, width) if m % 2 else (width, height))

    def test_shapes_that_motions_take_to_themselves(self):
        self.assert_all_motions(["###", "#.#", "###"], [["###", "#.#", "###"]] * 8)
        self.assert_all_motions(["#.", ".#"], [["#.", ".#"], [".#", "#."]] * 2 + [[".#", "#."], ["#.", ".#"]] * 2)
        upright, lying = [".#.", "###"], ["#.", "##", "#."]
        upside_down, lying_left = ["###", ".#."], [".#", "##", ".#"]
        self.assert_all_motions(upright, [upright, lying, upside_down, lying_left] * 2)

    def test_all_small_shapes(self):
        for width, height in ((1, 1), (2, 1), (1, 2), (4, 1), (1, 4), (2, 2), (3, 2), (2, 3), (3, 3)):
            for cells in range(2 ** (width * height)):
                rows = drawn(width, height, lambda x, y: cells >> (width * y + x) & 1)
                if is_shape(rows):
                    self.assert_all_motions(rows, [drawing.moved(rows, m) for m in range(8)])

    def test_drawn_by_lot(self):
        source = random.Random(5)
        for most, times in ((6, 100), (32, 30)):
            for _ in range(times):
                rows = drawn_by_lot(source, most, source.choice((0.3, 0.5, 0.8)))
                self.assert_all_motions(rows, [drawing.moved(rows, m) for m in range(8)])

    def test_the_last_of_many_large_signs(self):
        rows = drawn(32, 32, lone_cell_at_the_right)
        full = written(["#" * 32] * 32)
        t = "".join(f"sign A{k} a/{full}" for k in range(1, 91)) + "sign B1 b c/" + written(rows)
        self.assertLessEqual(len(t), 100000)
        for m in range(8):
            self.assertEqual(self.moved(90, m, t), [1056] + text(written(drawing.moved(rows, m))))
            self.assertEqual(self.moved(89, m, t), [1056] + text(full))


class MotionsOneAfterAnother(MovedCase):
    def shapes(self):
        source = random.Random(6)
        by_hand = [rows_of(due[0]) for due in DUE]
        return by_hand + [drawn_by_lot(source, most, 0.6) for most in (2, 3, 5, 8, 12, 32) for _ in range(4)]

    def test_each_is_undone_by_one(self):
        for rows in self.shapes():
            for m in range(8):
                self.assertEqual(self.moved_rows(self.moved_rows(rows, m), undoing(m)), rows)

    def test_of_a_shape_that_none_takes_to_itself_no_other_one_undoes(self):
        for due in DUE:
            rows = rows_of(due[0])
            for m in range(8):
                there = self.moved_rows(rows, m)
                self.assertEqual([n for n in range(8) if self.moved_rows(there, n) == rows], [undoing(m)])

    def test_two_are_one(self):
        for rows in self.shapes():
            by_one = [self.moved_rows(rows, m) for m in range(8)]
            for first in range(8):
                for second in range(8):
                    told = self.moved_rows(by_one[first], second)
                    self.assertEqual(told, by_one[both(first, second)], (rows, first, second))

    def test_four_quarters_and_two_mirrorings_are_none(self):
        for rows in self.shapes():
            shape = rows
            for m in (1, 1, 1, 1, 4, 4):
                shape = self.moved_rows(shape, m)
            self.assertEqual(shape, rows)


class WhatStays(MovedCase):
    def test_ink_pieces_and_holes(self):
        source = random.Random(4)
        kinds = [(most, share) for most in (4, 9, 32) for share in (0.3, 0.6, 0.8)] * 9
        by_lot = [drawn_by_lot(source, most, share) for most, share in kinds]
        for rows in by_lot + [["###", "#.#", "###"], ["#.#", "...", "#.#"], [".#.", "#.#", ".#."]]:
            told = size(0, text("sign A1 a/" + written(rows)))
            for m in range(8):
                t = text("sign A1 a/") + moved(0, m, text("sign A1 a/" + written(rows)))[1:]
                width_and_height = [told[2], told[1]] if m % 2 else [told[1], told[2]]
                self.assertEqual(judge(t), [1])
                self.assertEqual(size(0, t), [0] + width_and_height + told[3:], (rows, m))

    def test_moved_by_none_is_the_lists_own_text(self):
        for t in ("sign A1/#/", "sign A1 a/##./#.#/", "sign A1/#.#/.../#.#/"):
            self.assertEqual(self.moved(0, 0, t)[1:], text(t[t.index("/") + 1:]))


class Refusals(CallCase):
    LIST = "sign A1 a ba/##./#.#/sign A2/#/"

    def test_motions_at_the_edges(self):
        self.assertEqual(self.moved(0, 0, self.LIST), [8] + text("##./#.#/"))
        self.assertEqual(self.moved(0, 7, self.LIST), [9] + text("##/#./.#/"))
        for m in (8, 9, 12, 15, 16, 255, 256, 65536, LAST - 1, LAST):
            for k in (0, 1):
                self.assertEqual(self.moved(k, m, self.LIST), [-1], (k, m))

    def test_signs_at_the_edges(self):
        for signs in (1, 2, 512):
            for m in (0, 3, 7):
                self.assertEqual(self.moved(0, m, many_signs(signs)), [2] + text("#/"))
                self.assertEqual(self.moved(signs - 1, m, many_signs(signs)), [2] + text("#/"))
                for k in (signs, signs + 1, 65536, LAST - 1, LAST):
                    self.assertEqual(self.moved(k, m, many_signs(signs)), [-4], (k, m))

    def test_a_motion_above_7_before_a_sign_that_is_not_there(self):
        for k in (2, 3, LAST):
            for m in (8, 9, LAST):
                self.assertEqual(self.moved(k, m, self.LIST), [-1], (k, m))

    def test_no_right_list_before_all_else(self):
        for t in NO_LISTS + (many_signs(513), self.LIST[:-1], self.LIST + "/"):
            for k in (0, 1, 2, LAST):
                for m in (0, 7, 8, LAST):
                    self.assertEqual(self.moved(k, m, t), [-6], (k, m, t))

    def test_texts_of_one_byte(self):
        for byte in range(256):
            self.assertEqual(self.moved(0, 0, [byte]), [-6])

    def test_long_texts(self):
        for k in (0, LAST):
            for m in (0, 8, LAST):
                self.assertEqual(self.moved(k, m, [35] * 1048577), [-2])
                self.assertEqual(self.moved(k, m, [35] * 1048576), [-6])


class NothingIsKept(CallCase):
    def test_calls_among_one_another(self):
        one, two = text("sign A1 a/##./#.#/sign A2/#/"), text("sign B1 b/#/##/sign B2/#/")
        for _ in range(3):
            self.assertEqual(self.call(judge, two), [-6, 5, 12])
            self.assertEqual(moved(0, 1, one), [9] + text("##/.#/#./"))
            self.assertEqual(moved(0, 1, two), [-6])
            self.assertEqual(moved(0, 8, one), [-1])
            self.assertEqual(sound(0, 0, one), [1] + text("a"))
            self.assertEqual(moved(1, 4, one), [2] + text("#/"))
            self.assertEqual(moved(0, 0, one), [8] + text("##./#.#/"))

    def test_an_answer_is_the_callers_own(self):
        t = text("sign A1 a/##./#.#/")
        for m in range(8):
            first = moved(0, m, t)
            kept = list(first)
            first[1] = 7
            first.append(7)
            self.assertEqual(moved(0, m, t), kept)
            self.assertEqual(t, text("sign A1 a/##./#.#/"))
