"""find: names are found just where they stand."""

from signlists.lists import find, judge
from tests.helpers import CallCase, RISING, many_signs, text

LIST = "".join(f"sign {name} a ba/#/" for name in RISING)


class Find(CallCase):
    def test_each_name_at_its_own_number(self):
        for number, name in enumerate(RISING):
            self.assertEqual(self.found(LIST, name), [number])

    def test_in_a_full_list(self):
        full = many_signs(512)
        for number in (0, 1, 255, 510, 511):
            self.assertEqual(self.found(full, f"A{number + 1}"), [number])
        self.assertEqual(self.found(full, "A513"), [-5])

    def test_the_only_sign(self):
        self.assertEqual(self.found("sign Zz999z/#/", "Zz999z"), [0])

    def test_a_name_that_is_not_there(self):
        for name in ("A1c", "A3", "A11", "Aa3", "Ac1", "B3", "Bb1", "Z1", "C1"):
            self.assertEqual(self.found(LIST, name), [-5])

    def test_no_name(self):
        for word in ("", " ", "A", "1", "a1", "A0", "A01", "A1000", "a", "ba", "sign", "sign A1", "#", "A1/", "/A1"):
            self.assertEqual(self.found(LIST, word), [-5])

    def test_every_single_byte(self):
        for byte in range(256):
            self.assertEqual(self.found(LIST, [byte]), [-5])

    def test_something_before_or_behind_a_name(self):
        for byte in range(256):
            if not 97 <= byte <= 122 and not 48 <= byte <= 57:
                self.assertEqual(self.found(LIST, text("A1") + [byte]), [-5])
            self.assertEqual(self.found(LIST, [byte] + text("A1")), [-5])
        self.assertEqual(self.found(LIST, "A1 a"), [-5])
        self.assertEqual(self.found(LIST, "A1 a ba"), [-5])

    def test_beginnings_and_longer_names(self):
        written = "sign Ab123c/#/"
        for word in ("A", "Ab", "Ab1", "Ab12", "Ab123", "Ab123cd", "Ab123c1", "b123c", "123c"):
            self.assertEqual(self.found(written, word), [-5])
        self.assertEqual(self.found(written, "Ab123c"), [0])

    def test_longest_s(self):
        self.assertEqual(self.found(LIST, [65] * 1000), [-5])
        self.assertEqual(self.found(LIST, text("A1") + [49] * 998), [-5])

    def test_no_right_list(self):
        for written in ("", "sign A1/", "sign A1/#", "sign A1/#/sign A1/#/", "sign A1/./", "x"):
            for word in ("A1", "A2", "A01", "", "no name"):
                self.assertEqual(self.found(written, word), [-6])

    def test_a_text_s_of_more_than_1048576_bytes(self):
        self.assertEqual(self.found(LIST, [65] * 1048577), [-2])
        self.assertEqual(self.found(LIST, [65] * 1048576), [-5])


class NothingIsKept(CallCase):
    def test_calls_among_one_another(self):
        right, wrong = text("sign A1/#/sign A2/#/"), text("sign A1/#/sign A1/#/")
        for _ in range(3):
            self.assertEqual(judge(right), [2])
            self.assertEqual(judge(wrong), [-6, 2, 15])
            self.assertEqual(find(right, text("A2")), [1])
            self.assertEqual(find(wrong, text("A1")), [-6])
            self.assertEqual(find(right, text("A3")), [-5])

    def test_an_answer_is_the_callers_own(self):
        right = text("sign A1/#/")
        for call in (lambda: judge(right), lambda: find(right, text("A1")), lambda: find(right, []), lambda: judge([])):
            first = call()
            kept = list(first)
            first.append(7)
            first[0] = 7
            self.assertEqual(call(), kept)

    def test_one_text_for_both_arguments(self):
        both = text("sign A1/#/")
        self.assertEqual(find(both, both), [-5])
        self.assertEqual(both, text("sign A1/#/"))
