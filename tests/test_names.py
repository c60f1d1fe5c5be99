"""Names: their form, and their order."""

from tests.helpers import CallCase, RISING, put


class Form(CallCase):
    def test_names(self):
        for name in RISING + ["Aa15", "D4b", "M500m", "A101"]:
            self.assert_right(f"sign {name}/#/", 1)
            self.assert_right(f"sign {name} a/#/", 1)

    def test_no_names(self):
        words = [
            "A", "Aa", "a", "a1", "1", "1A", "A0", "Aa0", "A00", "A01", "A001", "A0a", "A01a", "A1000", "A1000a",
            "Aa1000", "A9999", "A1ab", "A1aa1", "A1A", "A1a1", "AA1", "Aaa1", "A1.", "A-1", "A+1", "A1-", "#", "sign",
            "A" * 900, "A" + "1" * 900, "Ab" + "0" * 900, "A1" + "a" * 900,
        ]
        for word in words:
            self.assert_fault(f"sign {word}/#/", 1, 5)
            self.assert_fault(f"sign {word} a/#/", 1, 5)
            self.assertEqual(self.found("sign A1/#/", word), [-5])

    def test_numbers_at_the_edges(self):
        for number in (1, 9, 10, 99, 100, 999):
            self.assert_right(f"sign A{number}/#/", 1)
        for number in ("0", "1000", "01", "010", "0999"):
            self.assert_fault(f"sign A{number}/#/", 1, 5)

    def test_every_byte_at_each_part(self):
        for byte in range(256):
            if byte in (10, 32):
                continue
            capital, small, digit = 65 <= byte <= 90, 97 <= byte <= 122, 48 <= byte <= 57
            self.assert_one_byte("sign A1/#/", 5, byte, capital)
            self.assert_one_byte("sign Aa1/#/", 6, byte, small or 49 <= byte <= 57)
            self.assert_one_byte("sign A1/#/", 6, byte, 49 <= byte <= 57)
            self.assert_one_byte("sign A123/#/", 7, byte, digit)
            self.assert_one_byte("sign A12/#/", 7, byte, small or digit)
            self.assert_one_byte("sign A123b/#/", 9, byte, small)

    def assert_one_byte(self, written, place, byte, right):
        changed = put(written, place, byte)
        if right:
            self.assert_right(changed, 1)
        else:
            self.assert_fault(changed, 1, 5)

    def test_no_name_at_all(self):
        self.assert_fault("sign", 1, 4)
        self.assert_fault("sign/", 1, 4)
        self.assert_fault("sign/#/", 1, 4)
        self.assert_fault("sign A1/#/sign/#/", 1, 14)

    def test_an_empty_word_is_no_name(self):
        self.assert_fault("sign ", 1, 5)
        self.assert_fault("sign /#/", 1, 5)
        self.assert_fault("sign  /#/", 1, 5)
        self.assert_fault("sign  A1/#/", 1, 5)
        self.assert_fault("sign A1/#/sign  A2/#/", 1, 15)


class Order(CallCase):
    def test_all_rising(self):
        self.assert_right("".join(f"sign {name}/#/" for name in RISING), len(RISING))

    def test_every_two(self):
        for i, first in enumerate(RISING):
            for j, second in enumerate(RISING):
                written = f"sign {first}/#/sign {second}/#/"
                if i < j:
                    self.assert_right(written, 2)
                else:
                    self.assert_fault(written, 2, len(f"sign {first}/#/sign "))

    def test_only_the_name_before_counts(self):
        self.assert_fault("sign A1/#/sign A5/#/sign A3/#/", 2, 25)
