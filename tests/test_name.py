"""name: the bytes of a sign's name, and what is refused; together with find."""

from signlists.lists import find, judge, name, size
from tests.helpers import CallCase, LAST, NO_LISTS, RISING, many_signs, text

LIST = "".join(f"sign {one} a ba/#/" for one in RISING)


class Name(CallCase):
    def test_every_form(self):
        forms = ["A1", "A12", "A123", "A1b", "A12b", "A123b", "Ab1", "Ab12", "Ab123", "Ab1c", "Ab12c", "Ab123c"]
        for one in forms + ["Z9", "Zz999z", "Aa15", "D4b"]:
            for sounds in ("", " a", " ab c"):
                self.assertEqual(self.named(0, f"sign {one}{sounds}/#/"), [len(one)] + text(one))

    def test_each_sign_of_a_list(self):
        for number, one in enumerate(RISING):
            self.assertEqual(self.named(number, LIST), [len(one)] + text(one))

    def test_in_a_full_list(self):
        for number in (0, 1, 255, 510, 511):
            one = f"A{number + 1}"
            self.assertEqual(self.named(number, many_signs(512)), [len(one)] + text(one))

    def test_a_name_is_found_where_it_stands(self):
        for written, signs in ((LIST, len(RISING)), (many_signs(40), 40), ("sign Q7/#/", 1)):
            for number in range(signs):
                answer = self.named(number, written)
                self.assertEqual(answer[0], len(answer) - 1)
                self.assertEqual(self.found(written, answer[1:]), [number])


class Edges(CallCase):
    def test_numbers_of_signs(self):
        for signs in (1, 2, 24, 512):
            written = many_signs(signs)
            last = f"A{signs}"
            self.assertEqual(self.named(0, written), [2] + text("A1"))
            self.assertEqual(self.named(signs - 1, written), [len(last)] + text(last))
            self.assertEqual(self.sized(0, written), [0, 1, 1, 1, 0, 1, 0])
            self.assertEqual(self.sized(signs - 1, written), [0, 1, 1, 1, 0, 1, 0])
            for number in (signs, signs + 1, 65536, LAST - 1, LAST):
                self.assertEqual(self.named(number, written), [-4])
                self.assertEqual(self.sized(number, written), [-4])

    def test_no_right_list(self):
        for written in NO_LISTS + (many_signs(513),):
            for number in (0, 1, 2, 512, LAST):
                self.assertEqual(self.named(number, written), [-6])
                self.assertEqual(self.sized(number, written), [-6])

    def test_texts_of_one_byte(self):
        for byte in range(256):
            self.assertEqual(self.named(0, [byte]), [-6])
            self.assertEqual(self.sized(0, [byte]), [-6])

    def test_long_texts(self):
        for number in (0, LAST):
            self.assertEqual(self.named(number, [35] * 1048577), [-2])
            self.assertEqual(self.sized(number, [35] * 1048577), [-2])
            self.assertEqual(self.named(number, [35] * 1048576), [-6])
            self.assertEqual(self.sized(number, [35] * 1048576), [-6])


class NothingIsKept(CallCase):
    def test_calls_among_one_another(self):
        one, two = text("sign A1/#/sign A2 a/##/"), text("sign B1 a b/#.#/")
        for _ in range(3):
            self.assertEqual(name(1, one), [2] + text("A2"))
            self.assertEqual(size(0, two), [0, 3, 1, 2, 2, 2, 0])
            self.assertEqual(name(1, two), [-4])
            self.assertEqual(judge(two), [1])
            self.assertEqual(name(0, two), [2] + text("B1"))
            self.assertEqual(size(1, one), [0, 2, 1, 2, 1, 1, 0])
            self.assertEqual(size(1, two), [-4])
            self.assertEqual(find(one, text("B1")), [-5])
            self.assertEqual(name(0, two[:-1]), [-6])

    def test_an_answer_is_the_callers_own(self):
        written = text("sign A1 a/#/")
        for call, number in ((name, 0), (size, 0), (name, 1), (size, 1)):
            first = call(number, written)
            kept = list(first)
            first.append(7)
            first[0] = 7
            self.assertEqual(call(number, written), kept)
            self.assertEqual(written, text("sign A1 a/#/"))
