"""sound: the letters of a sign's sounds in their own order, and what is refused."""

from signlists.lists import judge, moved, size, sound
from tests.helpers import CallCase, LAST, NO_LISTS, many_signs, text

EIGHT = ["h", "ba", "abcdefgh", "zzzzzzzz", "b", "a", "sign", "xyz"]
# Signs with 0, 1 and 8 sounds, and 0 again at the end.
SOUNDS = [[], ["q"], EIGHT, ["ba", "a"], ["abcdefgh"], []]
LIST = "".join(f"sign A{number + 1}{''.join(' ' + one for one in sounds)}/#/" for number, sounds in enumerate(SOUNDS))


class Sound(CallCase):
    def assert_sounds(self, k, t, sounds):
        """Check every sound of the sign, and that it has no further one."""
        for i, one in enumerate(sounds):
            self.assertEqual(self.sounded(k, i, t), [len(one)] + text(one), (k, i))
        for i in (len(sounds), len(sounds) + 1, 65536, LAST - 1, LAST):
            self.assertEqual(self.sounded(k, i, t), [-4], (k, i))

    def test_each_sound_of_each_sign(self):
        for k, sounds in enumerate(SOUNDS):
            self.assert_sounds(k, LIST, sounds)

    def test_none_to_eight_sounds(self):
        for count in range(9):
            self.assert_sounds(0, "sign Ab12c" + "".join(" " + one for one in EIGHT[:count]) + "/#.#/", EIGHT[:count])

    def test_one_to_eight_letters(self):
        for count in range(1, 9):
            for letter in "amz":
                self.assert_sounds(0, f"sign A1 {letter * count}/#/", [letter * count])

    def test_the_order_is_the_signs_own(self):
        self.assert_sounds(0, "sign A1 b a c/#/", ["b", "a", "c"])
        self.assert_sounds(0, "sign A1 c b a/#/", ["c", "b", "a"])
        self.assert_sounds(0, "sign A1 aaa aa a/#/", ["aaa", "aa", "a"])

    def test_every_letter(self):
        letters = "abcdefghijklmnopqrstuvwxyz"
        for first in (0, 8, 16, 18):
            sounds = list(letters[first:first + 8])
            self.assert_sounds(0, "sign A1 " + " ".join(sounds) + "/#/", sounds)

    def test_signs_with_the_same_sounds(self):
        t = "sign A1 a b/#/sign A2 b a/#/sign A3 a b/#/"
        for k, sounds in enumerate((["a", "b"], ["b", "a"], ["a", "b"])):
            self.assert_sounds(k, t, sounds)

    def test_in_a_full_list(self):
        t = "".join(f"sign A{k + 1} {'abcdefgh'[k % 8]} x{'y' * (k % 7)}/#/" for k in range(512))
        for k in (0, 1, 7, 255, 510, 511):
            self.assert_sounds(k, t, ["abcdefgh"[k % 8], "x" + "y" * (k % 7)])
        self.assertEqual(self.sounded(512, 0, t), [-4])

    def test_as_many_as_size_tells(self):
        for k in range(len(SOUNDS)):
            count = size(k, text(LIST))[4]
            told = [self.sounded(k, i, LIST) for i in range(count + 1)]
            self.assertEqual([answer == [-4] for answer in told], [False] * count + [True])
            self.assertEqual([answer[0] for answer in told[:-1]], [len(answer) - 1 for answer in told[:-1]])


class Refusals(CallCase):
    def test_a_sign_that_is_not_there(self):
        for t, signs in ((LIST, len(SOUNDS)), ("sign A1 a b/#/", 1), (many_signs(512), 512)):
            for k in (signs, signs + 1, 65536, LAST - 1, LAST):
                for i in (0, 1, 7, 8, LAST):
                    self.assertEqual(self.sounded(k, i, t), [-4], (k, i))

    def test_no_right_list(self):
        for t in NO_LISTS + (many_signs(513), LIST[:-1], LIST + "/"):
            for k in (0, 1, 512, LAST):
                for i in (0, 1, 8, LAST):
                    self.assertEqual(self.sounded(k, i, t), [-6], t)

    def test_texts_of_one_byte(self):
        for byte in range(256):
            self.assertEqual(self.sounded(0, 0, [byte]), [-6])

    def test_long_texts(self):
        for number in (0, LAST):
            self.assertEqual(self.sounded(number, number, [35] * 1048577), [-2])
            self.assertEqual(self.sounded(number, number, [35] * 1048576), [-6])


class NothingIsKept(CallCase):
    def test_calls_among_one_another(self):
        one, two = text("sign A1 a b/#/sign A2 c/##/"), text("sign B1 d/#.#/")
        for _ in range(3):
            self.assertEqual(sound(0, 1, one), [1] + text("b"))
            self.assertEqual(sound(0, 0, two), [1] + text("d"))
            self.assertEqual(sound(0, 1, two), [-4])
            self.assertEqual(moved(1, 1, one), [4] + text("#/#/"))
            self.assertEqual(sound(1, 0, one), [1] + text("c"))
            self.assertEqual(sound(1, 0, two), [-4])
            self.assertEqual(sound(0, 0, two[:-1]), [-6])
            self.assertEqual(judge(two), [1])

    def test_an_answer_is_the_callers_own(self):
        t = text("sign A1 ab/#/")
        first = sound(0, 0, t)
        first[1] = 7
        first.append(7)
        self.assertEqual(sound(0, 0, t), [2] + text("ab"))
        self.assertEqual(t, text("sign A1 ab/#/"))
