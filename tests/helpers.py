"""What the tests share: texts written readably, and calls that watch their arguments."""

import unittest

from signlists.lists import alike, find, judge, moved, name, next_of, size, sound
from tests.drawing import rows_of

# Names in order, with neighbours that differ in each of the four parts.
RISING = [
    "A1", "A1a", "A1b", "A1z", "A2", "A9z", "A10", "A99", "A100", "A999", "A999z",
    "Aa1", "Aa1a", "Aa2", "Aa10", "Ab1", "Ab1a", "Az999z", "B1", "B2", "Ba1", "Z999", "Za1", "Zz999z",
]

LAST = 4294967295
NO_LISTS = (
    "", "/", "x", "#/", "sign", "sign A1", "sign A1/", "sign A1/#", "sign A1/#/#", "sign A1/./", "sign A01/#/",
    "sign A1/#/sign A1/#/", "sign A1 a a/#/", "sign A1/##/#/", "sign A1/#/sign A2/", "sign A1/#/sign A2/./",
)


def text(written):
    """Give the bytes of a text in which 10 is written as /."""
    return [10 if sign == "/" else ord(sign) for sign in written]


def put(written, place, byte):
    """Give the text with one of its bytes changed."""
    changed = text(written)
    changed[place] = byte
    return changed


class Unchangeable(list):
    """A list that fails if it is changed, be it only for a while."""

    def refuse(self, *args, **kwargs):
        raise AssertionError("an argument was changed")

    __setitem__ = __delitem__ = __iadd__ = __imul__ = refuse
    append = clear = extend = insert = pop = remove = reverse = sort = refuse


def as_kind(kind, arguments):
    """Give the arguments with a new list of that kind for each text."""
    return [one if isinstance(one, int) else kind(one) for one in arguments]


class CallCase(unittest.TestCase):
    def call(self, function, *written):
        """Call with arguments that must stay as they are; the answer must be a list of plain ints."""
        arguments = [text(one) if isinstance(one, str) else one for one in written]
        handed_in = as_kind(Unchangeable, arguments)
        answer = function(*handed_in)
        self.assertEqual(as_kind(list, handed_in), as_kind(list, arguments))
        plain = as_kind(list, arguments)
        self.assertEqual(function(*plain), answer)
        self.assertEqual(plain, as_kind(list, arguments))
        self.assertIs(type(answer), list)
        self.assertEqual({type(one) for one in answer}, {int})
        return answer

    def judged(self, t):
        return self.call(judge, t)

    def found(self, t, s):
        return self.call(find, t, s)

    def named(self, k, t):
        return self.call(name, k, t)

    def sized(self, k, t):
        return self.call(size, k, t)

    def sounded(self, k, i, t):
        return self.call(sound, k, i, t)

    def moved(self, k, m, t):
        return self.call(moved, k, m, t)

    def likened(self, i, j, t):
        return self.call(alike, i, j, t)

    def following(self, i, t):
        return self.call(next_of, i, t)

    def assert_ink_pieces_holes(self, shape, ink, pieces, holes):
        """Check the size of a shape that is written as its rows, by itself and behind another sign."""
        rows = rows_of(shape)
        expected = [0, len(rows[0]), len(rows), ink, 0, pieces, holes]
        self.assertEqual(self.sized(0, "sign A1/" + shape), expected, shape)
        self.assertEqual(self.sized(1, "sign A1 a/##/sign A2/" + shape), expected, shape)

    def assert_right(self, t, signs):
        self.assertEqual(self.judged(t), [signs], t)

    def assert_fault(self, t, kind, place):
        self.assertEqual(self.judged(t), [-6, kind, place], t)
        self.assertEqual(self.found(t, "A1"), [-6], t)


def many_signs(count):
    """Give the text of a list of that many signs, at most 26 * 999."""
    return "".join(f"sign {chr(65 + k // 999)}{k % 999 + 1}/#/" for k in range(count))
