"""size: width, height, cells with ink, sounds, pieces and holes."""

import random

from signlists.lists import size
from tests import counting
from tests.drawing import drawn, is_shape, written
from tests.helpers import CallCase, text


def winding(x, y):
    """A way that goes to and fro: the even rows, and between them one cell at their right and left ends by turns."""
    return y % 2 == 0 or x == (31 if y % 4 == 1 else 0)


def wall_of_winding_hole(x, y):
    """All but a way that goes to and fro within columns 1 to 30 and rows 1 to 29."""
    if x in (0, 31) or y in (0, 30, 31):
        return True
    return y % 2 == 0 and x != (30 if y % 4 == 2 else 1)


class WidthAndHeight(CallCase):
    def test_every_width_and_height_at_the_edges(self):
        for width in (1, 2, 3, 31, 32):
            for height in (1, 2, 3, 31, 32):
                full = written(drawn(width, height, lambda x, y: True))
                self.assert_ink_pieces_holes(full, ink=width * height, pieces=1, holes=0)

    def test_one_row_or_column_with_gaps(self):
        for length in (3, 5, 31):
            gaps = drawn(length, 1, lambda x, y: x % 2 == 0)
            self.assert_ink_pieces_holes(written(gaps), ink=length // 2 + 1, pieces=length // 2 + 1, holes=0)
            self.assert_ink_pieces_holes(written(gaps[0]), ink=length // 2 + 1, pieces=length // 2 + 1, holes=0)
        self.assert_ink_pieces_holes("#" + "." * 30 + "#/", ink=2, pieces=2, holes=0)
        self.assert_ink_pieces_holes("#/" + "./" * 30 + "#/", ink=2, pieces=2, holes=0)

    def test_each_sign_has_its_own(self):
        three = "sign A1 a/#.#/sign A2/#/./#/#/sign A3 a b/###/#.#/###/"
        self.assertEqual(self.sized(0, three), [0, 3, 1, 2, 1, 2, 0])
        self.assertEqual(self.sized(1, three), [0, 1, 4, 3, 0, 2, 0])
        self.assertEqual(self.sized(2, three), [0, 3, 3, 8, 2, 1, 1])


class Sounds(CallCase):
    def test_none_to_eight(self):
        for count in range(9):
            sounds = "".join(f" {letter}" for letter in "hgfedcba"[:count])
            self.assertEqual(self.sized(0, f"sign A1{sounds}/##/"), [0, 2, 1, 2, count, 1, 0])

    def test_sounds_are_counted_not_letters(self):
        self.assertEqual(self.sized(0, "sign A1 abcdefgh/#/"), [0, 1, 1, 1, 1, 1, 0])
        self.assertEqual(self.sized(0, "sign A1 abcdefgh sign a/#/"), [0, 1, 1, 1, 3, 1, 0])


class PiecesAndHoles(CallCase):
    def test_inside_one_another(self):
        self.assert_ink_pieces_holes("#####/#...#/#.#.#/#...#/#####/", ink=17, pieces=2, holes=1)
        rings = drawn(7, 7, lambda x, y: max(abs(x - 3), abs(y - 3)) % 2 == 1)
        self.assert_ink_pieces_holes(written(rings), ink=32, pieces=2, holes=2)
        rings = drawn(31, 31, lambda x, y: max(abs(x - 15), abs(y - 15)) % 2 == 1)
        self.assert_ink_pieces_holes(written(rings), ink=sum(8 * far for far in range(1, 16, 2)), pieces=8, holes=8)

    def test_a_piece_that_touches_the_ring_by_a_corner(self):
        self.assert_ink_pieces_holes("#####/##..#/#.#.#/#...#/#####/", ink=18, pieces=1, holes=1)
        self.assert_ink_pieces_holes("#####/##.##/#.#.#/##.##/#####/", ink=21, pieces=1, holes=4)

    def test_a_hole_that_touches_the_outside_by_a_corner(self):
        for shape in (".##/#.#/###/", "##./#.#/###/", "###/#.#/##./", "###/#.#/.##/"):
            self.assert_ink_pieces_holes(shape, ink=7, pieces=1, holes=1)
        self.assert_ink_pieces_holes(".##./#..#/#..#/.##./", ink=8, pieces=1, holes=1)

    def test_a_bay_that_touches_the_outside_by_a_side(self):
        for shape in ("#.#/#.#/###/", "###/#../###/", "###/#.#/#.#/", "###/..#/###/"):
            self.assert_ink_pieces_holes(shape, ink=7, pieces=1, holes=0)

    def test_a_hole_beside_a_bay(self):
        self.assert_ink_pieces_holes("#####/#.#../#####/", ink=12, pieces=1, holes=1)

    def test_two_holes_that_touch_by_a_corner(self):
        self.assert_ink_pieces_holes("####/#.##/##.#/####/", ink=14, pieces=1, holes=2)
        self.assert_ink_pieces_holes("####/##.#/#.##/####/", ink=14, pieces=1, holes=2)

    def test_rows_and_columns_without_ink(self):
        self.assert_ink_pieces_holes("##/../##/", ink=4, pieces=2, holes=0)
        self.assert_ink_pieces_holes("#.#/#.#/", ink=4, pieces=2, holes=0)


class LargeShapes(CallCase):
    def test_chessboard(self):
        # The 450 inner cells without ink are a hole each; those at the rim are the outside's.
        board = written(drawn(32, 32, lambda x, y: (x + y) % 2 == 0))
        self.assert_ink_pieces_holes(board, ink=512, pieces=1, holes=450)
        board = written(drawn(32, 32, lambda x, y: (x + y) % 2 == 1))
        self.assert_ink_pieces_holes(board, ink=512, pieces=1, holes=450)

    def test_winding_piece(self):
        self.assert_ink_pieces_holes(written(drawn(32, 32, winding)), ink=16 * 32 + 16, pieces=1, holes=0)
        turned = written(drawn(32, 32, lambda x, y: winding(y, x)))
        self.assert_ink_pieces_holes(turned, ink=16 * 32 + 16, pieces=1, holes=0)

    def test_winding_hole(self):
        without = 15 * 30 + 14
        rows = drawn(32, 32, wall_of_winding_hole)
        self.assert_ink_pieces_holes(written(rows), ink=1024 - without, pieces=1, holes=1)
        turned = drawn(32, 32, lambda x, y: wall_of_winding_hole(y, x))
        self.assert_ink_pieces_holes(written(turned), ink=1024 - without, pieces=1, holes=1)

    def test_winding_hole_that_is_open_at_its_end(self):
        rows = drawn(32, 32, lambda x, y: wall_of_winding_hole(x, y) and (x, y) != (0, 1))
        self.assert_ink_pieces_holes(written(rows), ink=1024 - 15 * 30 - 15, pieces=1, holes=0)

    def test_many_pieces(self):
        at = [2 * k for k in range(15)] + [31]
        self.assert_ink_pieces_holes(written(drawn(32, 32, lambda x, y: x in at and y in at)), 256, 256, 0)

    def test_many_holes_of_one_cell(self):
        rows = drawn(31, 31, lambda x, y: x % 2 == 0 or y % 2 == 0)
        self.assert_ink_pieces_holes(written(rows), ink=31 * 31 - 225, pieces=1, holes=225)

    def test_the_last_of_many_large_signs(self):
        full = written(drawn(32, 32, lambda x, y: True))
        many = "".join(f"sign A{k} a/{full}" for k in range(1, 91)) + "sign B1 b c/" + written(drawn(32, 32, winding))
        self.assertLessEqual(len(many), 100000)
        self.assertEqual(self.sized(90, many), [0, 32, 32, 528, 2, 1, 0])
        self.assertEqual(self.sized(89, many), [0, 32, 32, 1024, 1, 1, 0])


class SecondCounting(CallCase):
    def check(self, rows):
        t = text("sign A1 a b/" + written(rows))
        before = list(t)
        self.assertEqual(size(0, t), counting.size(rows, 2), rows)
        self.assertEqual(t, before)

    def test_the_second_counting_itself(self):
        self.assertEqual(counting.size(["##.", "#.#"], 2), [0, 3, 2, 4, 2, 1, 0])
        self.assertEqual(counting.size(["###", "#.#", "###"], 0), [0, 3, 3, 8, 0, 1, 1])
        self.assertEqual(counting.size(["#.#", "...", "#.#"], 0), [0, 3, 3, 4, 0, 4, 0])
        self.assertEqual(counting.size([".#.", "#.#", ".#."], 0), [0, 3, 3, 4, 0, 1, 1])

    def test_all_small_shapes(self):
        checked = 0
        for width in range(1, 5):
            for height in range(1, 12 // width + 1):
                for cells in range(2 ** (width * height)):
                    rows = drawn(width, height, lambda x, y: cells >> (width * y + x) & 1)
                    if is_shape(rows):
                        self.check(rows)
                        checked += 1
        self.assertGreater(checked, 5000)

    def test_drawn_by_lot(self):
        source = random.Random(3)
        for most, times in ((6, 1500), (12, 300), (32, 40)):
            for _ in range(times):
                share = source.choice((0.3, 0.5, 0.6, 0.75, 0.9))
                width, height = source.randint(1, most), source.randint(1, most)
                rows = drawn(width, height, lambda x, y: source.random() < share)
                if is_shape(rows):
                    self.check(rows)
