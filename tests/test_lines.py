"""Whole texts: lines from the top, a last line without its byte 10, the text's end, how many signs."""

from tests.helpers import CallCase, many_signs


class SignLines(CallCase):
    def test_the_sign_before_has_no_row(self):
        self.assert_fault("sign A1/sign A2/#/", 1, 8)
        self.assert_fault("sign A1/#/sign A2/sign A3/#/", 1, 18)

    def test_what_is_wrong_with_the_sign_before_comes_first(self):
        for line in ("sign", "sign ", "sign A0", "sign A1", "sign A2 A", "sign A2 a a", "sign A2 a b c d e f g h i"):
            self.assert_fault(f"sign A1/{line}/#/", 1, 8)
            self.assert_fault(f"sign A1/./{line}/#/", 4, 0)
            self.assert_fault(f"sign A1/./{line}", 4, 0)

    def test_a_line_further_up_comes_first(self):
        self.assert_fault("sign A0/x/", 1, 5)
        self.assert_fault("sign A1 a a//", 2, 10)
        self.assert_fault("sign A1/##/#/x/", 5, 11)
        self.assert_fault("sign A1/##/x/#/", 1, 11)
        self.assert_fault("sign A1/#x/sign A1/#/", 1, 9)
        self.assert_fault("sign A2/#/sign A1/./", 2, 15)
        self.assert_fault("sign A1/#/sign A2/./sign A2/x/", 4, 10)


class HowManySigns(CallCase):
    def test_512(self):
        self.assert_right(many_signs(1), 1)
        self.assert_right(many_signs(511), 511)
        self.assert_right(many_signs(512), 512)

    def test_a_513th(self):
        before = len(many_signs(512))
        self.assert_fault(many_signs(513), 3, before)
        self.assert_fault(many_signs(600), 3, before)
        self.assert_fault(many_signs(512) + "sign B1", 3, before)

    def test_a_513th_that_has_another_fault_too(self):
        full = many_signs(512)
        before = len(full)
        self.assert_fault(full + "sign", 1, before + 4)
        self.assert_fault(full + "sign A0/#/", 1, before + 5)
        self.assert_fault(full + "sign A512/#/", 2, before + 5)
        self.assert_fault(full + "sign B1 A/#/", 1, before + 8)
        self.assert_fault(full + "sign B1 a a/#/", 2, before + 10)
        self.assert_fault(full + "sign B1 a b c d e f g h i/#/", 3, before + 24)
        self.assert_fault(full + "x/", 1, before)

    def test_a_512th_that_is_wrong_comes_before_a_513th(self):
        before = len(many_signs(511))
        self.assert_fault(many_signs(511) + "sign A512/./sign B1/#/", 4, before)
        self.assert_fault(many_signs(511) + "sign A512/sign B1/#/", 1, before + 10)


class LastLineWithoutItsEnd(CallCase):
    def test_nothing_else_is_wrong(self):
        self.assert_fault("sign A1", 1, 7)
        self.assert_fault("sign A1 a", 1, 9)
        self.assert_fault("sign A1/#", 1, 9)
        self.assert_fault("sign A1/#/#", 1, 11)
        self.assert_fault("sign A1/#/sign A2", 1, 17)

    def test_it_comes_before_the_rim_of_the_last_sign(self):
        self.assert_fault("sign A1/.", 1, 9)
        self.assert_fault("sign A1/#./#.", 1, 13)

    def test_what_else_is_wrong_with_it_comes_first(self):
        self.assert_fault("s", 1, 0)
        self.assert_fault("sign A0", 1, 5)
        self.assert_fault("sign A1 a a", 2, 10)
        self.assert_fault("sign A1 a b c d e f g h i", 3, 24)
        self.assert_fault("sign A1/x", 1, 8)
        self.assert_fault("sign A1/#x", 1, 9)
        self.assert_fault("sign A1/##/#", 5, 11)
        self.assert_fault("sign A1/" + "#" * 33, 5, 8)
        self.assert_fault("sign A1/" + "#/" * 32 + "#", 3, 72)
        self.assert_fault("sign A1/sign A2", 1, 8)
        self.assert_fault("sign A1/./sign A2", 4, 0)
        self.assert_fault("sign A1/#/sign A1", 2, 15)


class TextEnd(CallCase):
    def test_no_sign(self):
        self.assert_fault("", 1, 0)

    def test_the_last_sign_has_no_row(self):
        self.assert_fault("sign A1/", 1, 8)
        self.assert_fault("sign A1/#/sign A2 a/", 1, 20)

    def test_the_last_sign_lacks_ink_at_its_rim(self):
        self.assert_fault("sign A1/./", 4, 0)
        self.assert_fault("sign A1/#/sign A2 a/./", 4, 10)


class Bytes(CallCase):
    def test_texts_of_one_byte(self):
        for byte in range(256):
            self.assert_fault([byte], 1, 0)
            self.assert_fault([byte, 10], 1, 0)

    def test_other_ends_and_blanks(self):
        self.assert_fault("sign A1\r/#/", 1, 5)
        self.assert_fault("sign A1/#\r/", 1, 9)
        self.assert_fault("sign\tA1/#/", 1, 0)
        self.assert_fault("sign A1\ta/#/", 1, 5)


class LongTexts(CallCase):
    def test_more_than_1048576_bytes(self):
        self.assertEqual(self.judged([35] * 1048577), [-2])
        self.assertEqual(self.found([35] * 1048577, "A1"), [-2])
        self.assertEqual(self.found([35] * 1048577, "no name"), [-2])

    def test_1048576_bytes(self):
        self.assertEqual(self.judged([35] * 1048576), [-6, 1, 0])
        self.assertEqual(self.found([35] * 1048576, "A1"), [-6])

    def test_long_lines(self):
        self.assert_fault("sign A1/" + "#" * 99991 + "/", 5, 8)
        self.assert_fault("sign A1/" + "#" * 99992, 5, 8)
        self.assert_fault("sign A1" + " " * 99993, 1, 8)
        self.assert_fault("sign A" + "1" * 99994, 1, 5)
        self.assert_fault("sign A1 " + "a" * 99992, 1, 8)
        self.assert_fault(" " * 100000, 1, 0)
        self.assert_fault("/" * 100000, 1, 0)

    def test_a_long_list(self):
        shape = ("#" * 32 + "/") * 5
        written = "".join(f"sign A{k} a b c d e f g h/{shape}" for k in range(1, 513))
        self.assertLessEqual(len(written), 100000)
        self.assert_right(written, 512)
        self.assertEqual(self.found(written, "A512"), [511])
