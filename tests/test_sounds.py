"""Sounds: their form, their number, and no two the same."""

from tests.helpers import CallCase, put

EIGHT = "a b c d e f g h"


class Sounds(CallCase):
    def test_lengths(self):
        self.assert_right("sign A1 a/#/", 1)
        self.assert_right("sign A1 abcdefgh/#/", 1)
        self.assert_fault("sign A1 abcdefghi/#/", 1, 8)
        self.assert_fault("sign A1 " + "a" * 900 + "/#/", 1, 8)

    def test_how_many(self):
        for count in range(9):
            self.assert_right("sign A1" + "".join(f" {letter}" for letter in "abcdefgh"[:count]) + "/#/", 1)
        self.assert_right("sign A1 azazazaa azazazab c d e f g hhhhhhhh/#/", 1)

    def test_a_ninth(self):
        self.assert_fault(f"sign A1 {EIGHT} i/#/", 3, 24)
        self.assert_fault(f"sign A1 {EIGHT} i j/#/", 3, 24)
        self.assert_fault(f"sign A1 {EIGHT} i J/#/", 3, 24)

    def test_a_ninth_that_has_another_fault_too(self):
        self.assert_fault(f"sign A1 {EIGHT} I/#/", 1, 24)
        self.assert_fault(f"sign A1 {EIGHT} /#/", 1, 24)
        self.assert_fault(f"sign A1 {EIGHT} h/#/", 2, 24)
        self.assert_fault(f"sign A1 {EIGHT} a/#/", 2, 24)

    def test_twice(self):
        self.assert_fault("sign A1 a a/#/", 2, 10)
        self.assert_fault("sign A1 ab cd ef ab/#/", 2, 17)
        self.assert_fault("sign A1 abcdefgh abcdefgh/#/", 2, 17)
        self.assert_right("sign A1 a aa aaa ab ba/#/", 1)

    def test_in_an_order_of_its_own(self):
        self.assert_right("sign A1 c a b/#/", 1)

    def test_two_signs_may_share_a_sound(self):
        self.assert_right("sign A1 a b/#/sign A2 a b/#/", 2)

    def test_sign_may_be_a_sound(self):
        self.assert_right("sign A1 sign/#/", 1)

    def test_no_sounds(self):
        for word in ("A", "aB", "a1", "1", ".", "#", "a.", "A1"):
            self.assert_fault(f"sign A1 {word}/#/", 1, 8)
            self.assert_fault(f"sign A1 x {word} y/#/", 1, 10)

    def test_empty_words(self):
        self.assert_fault("sign A1 /#/", 1, 8)
        self.assert_fault("sign A1  /#/", 1, 8)
        self.assert_fault("sign A1  a/#/", 1, 8)
        self.assert_fault("sign A1 a  b/#/", 1, 10)
        self.assert_fault("sign A1 a /#/", 1, 10)
        self.assert_fault("sign A1 ", 1, 8)

    def test_every_byte(self):
        for byte in range(256):
            if byte in (10, 32):
                continue
            for written, place in (("sign A1 bbb/#/", 8), ("sign A1 bbb/#/", 9), ("sign A1 bbb/#/", 10)):
                changed = put(written, place, byte)
                if 97 <= byte <= 122:
                    self.assert_right(changed, 1)
                else:
                    self.assert_fault(changed, 1, 8)

    def test_word_by_word(self):
        self.assert_fault("sign A1 A b b/#/", 1, 8)
        self.assert_fault("sign A1 b b A/#/", 2, 10)
        self.assert_fault("sign A1 b A b/#/", 1, 10)
        self.assert_fault("sign A0 A/#/", 1, 5)
        self.assert_fault("sign A2/#/sign A1 A/#/", 2, 15)
        self.assert_fault("sign A2/#/sign A3 A/#/", 1, 18)
