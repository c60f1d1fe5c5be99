"""Rows: their bytes, lengths and number, and ink at a shape's rim."""

from tests.helpers import CallCase, put


class Rows(CallCase):
    def test_right_shapes(self):
        for shape in ("#/", "##/", "#/#/", "#./.#/", ".#/#./", "#/./#/", "#.#/", ".#./###/.#./", "...#/#.../"):
            self.assert_right("sign A1/" + shape, 1)

    def test_columns(self):
        self.assert_right("sign A1/" + "#" * 32 + "/", 1)
        self.assert_fault("sign A1/" + "#" * 33 + "/", 5, 8)
        self.assert_fault("sign A1/" + "#" * 900 + "/", 5, 8)
        self.assert_fault("sign A1/" + "#" * 32 + "/" + "#" * 33 + "/", 5, 41)

    def test_rows(self):
        self.assert_right("sign A1/" + "#/" * 32, 1)
        self.assert_fault("sign A1/" + "#/" * 33, 3, 72)
        self.assert_right("sign A1/" + ("#" * 32 + "/") * 32, 1)
        self.assert_fault("sign A1/" + ("#" * 32 + "/") * 33, 3, 8 + 32 * 33)
        self.assert_right("sign A1/" + "#/" * 32 + "sign A2/" + "#/" * 32, 2)

    def test_another_length(self):
        self.assert_fault("sign A1/##/#/", 5, 11)
        self.assert_fault("sign A1/##/###/", 5, 11)
        self.assert_fault("sign A1/##/##/#/", 5, 14)
        self.assert_right("sign A1/##/sign A2/#/sign A3/###/", 3)

    def test_no_sign_yet(self):
        self.assert_fault("#/", 1, 0)
        self.assert_fault("#", 1, 0)
        self.assert_fault("x/", 1, 0)
        self.assert_fault("#x/sign A1/#/", 1, 0)
        self.assert_fault("#" * 33 + "/", 1, 0)

    def test_empty_lines(self):
        self.assert_fault("/", 1, 0)
        self.assert_fault("//", 1, 0)
        self.assert_fault("/sign A1/#/", 1, 0)
        self.assert_fault("sign A1//#/", 1, 8)
        self.assert_fault("sign A1/#//", 1, 10)
        self.assert_fault("sign A1/#//sign A2/#/", 1, 10)

    def test_every_byte(self):
        for byte in range(256):
            if byte in (10, 35, 46):
                continue
            for place in (8, 9, 10, 12, 13, 14):
                self.assert_fault(put("sign A1/###/###/", place, byte), 1, place)

    def test_the_first_wrong_byte(self):
        self.assert_fault("sign A1/#xy/", 1, 9)

    def test_first_words_that_only_begin_with_sign(self):
        for word in ("signA1", "signs A1", "sign.", "sign#", "sign1 A1", "signsign A2"):
            self.assert_fault(word + "/#/", 1, 0)
            self.assert_fault(f"sign A1/#/{word}/#/", 1, 10)
        for byte in range(256):
            if byte not in (10, 32):
                self.assert_fault(put("sign A1/#/sign A2/#/", 14, byte), 1, 10)

    def test_first_words_that_are_near_sign(self):
        for word in ("sig", "sig A2", "Sign A2", "SIGN A2", "s A2", "A2", "isign A2"):
            self.assert_fault(word + "/#/", 1, 0)
            self.assert_fault(f"sign A1/#/{word}/#/", 1, 10)

    def test_a_blank_before_sign(self):
        self.assert_fault(" sign A1/#/", 1, 0)
        self.assert_fault("sign A1/#/ sign A2/#/", 1, 10)

    def test_a_blank_in_a_row(self):
        self.assert_fault("sign A1/# /", 1, 9)
        self.assert_fault("sign A1/# sign/", 1, 9)


class Rim(CallCase):
    def test_each_side_at_the_end(self):
        self.assert_fault("sign A1/../##/##/", 4, 0)
        self.assert_fault("sign A1/##/##/../", 4, 0)
        self.assert_fault("sign A1/.#/.#/", 4, 0)
        self.assert_fault("sign A1/#./#./", 4, 0)
        self.assert_fault("sign A1/./", 4, 0)
        self.assert_fault("sign A1/.../.#./.../", 4, 0)

    def test_each_side_before_another_sign(self):
        for shape in ("../##/##/", "##/##/../", ".#/.#/", "#./#./", "./"):
            self.assert_fault(f"sign A1/{shape}sign A2/#/", 4, 0)
            self.assert_fault(f"sign A1 a/#/sign A2/{shape}sign A3/#/", 4, 12)
            self.assert_fault(f"sign A1 a/#/sign A2/{shape}", 4, 12)

    def test_inner_rows_and_columns_may_be_empty(self):
        self.assert_right("sign A1/#.#/.../#.#/", 1)

    def test_all_shapes_of_three_by_three(self):
        for cells in range(512):
            grid = ["".join("#" if cells >> (3 * y + x) & 1 else "." for x in range(3)) for y in range(3)]
            columns = ["".join(row[x] for row in grid) for x in range(3)]
            written = "sign A1/" + "".join(row + "/" for row in grid)
            if "..." in (grid[0], grid[2], columns[0], columns[2]):
                self.assert_fault(written, 4, 0)
            else:
                self.assert_right(written, 1)


class TwoFaultsInARow(CallCase):
    def test_a_wrong_byte_before_the_length(self):
        self.assert_fault("sign A1/##/##x/", 1, 13)
        self.assert_fault("sign A1/" + "#" * 40 + "x/", 1, 48)

    def test_the_length_before_a_33rd_row(self):
        self.assert_fault("sign A1/" + "#/" * 32 + "##/", 5, 72)

    def test_a_wrong_byte_before_a_33rd_row(self):
        self.assert_fault("sign A1/" + "#/" * 32 + "x/", 1, 72)

    def test_an_empty_33rd_row(self):
        self.assert_fault("sign A1/" + "#/" * 32 + "/", 1, 72)

    def test_a_row_before_the_rim_of_its_sign(self):
        self.assert_fault("sign A1/./##/", 5, 10)
        self.assert_fault("sign A1/./x/", 1, 10)
        self.assert_fault("sign A1/" + "./" * 33, 3, 72)
