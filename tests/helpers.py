"""What the tests share: texts written readably, and calls that watch their arguments."""

import unittest

from signlists.lists import find, judge

# Names in order, with neighbours that differ in each of the four parts.
RISING = [
    "A1", "A1a", "A1b", "A1z", "A2", "A9z", "A10", "A99", "A100", "A999", "A999z",
    "Aa1", "Aa1a", "Aa2", "Aa10", "Ab1", "Ab1a", "Az999z", "B1", "B2", "Ba1", "Z999", "Za1", "Zz999z",
]


def text(written):
    """Give the bytes of a text in which 10 is written as /."""
    return [10 if sign == "/" else ord(sign) for sign in written]


def put(written, place, byte):
    """Give the text with one of its bytes changed."""
    changed = text(written)
    changed[place] = byte
    return changed


class Unchangeable(list):
    """A list that fails if it is changed, be it only for a while."""

    def refuse(self, *args, **kwargs):
        raise AssertionError("an argument was changed")

    __setitem__ = __delitem__ = __iadd__ = __imul__ = refuse
    append = clear = extend = insert = pop = remove = reverse = sort = refuse


class CallCase(unittest.TestCase):
    def call(self, function, *texts):
        """Call with arguments that must stay as they are; the answer must be a list of plain ints."""
        handed_in = [Unchangeable(one) for one in texts]
        answer = function(*handed_in)
        for one, before in zip(handed_in, texts):
            self.assertEqual(list(one), list(before))
        plain = [list(one) for one in texts]
        self.assertEqual(function(*plain), answer)
        self.assertEqual(plain, [list(one) for one in texts])
        self.assertIs(type(answer), list)
        self.assertEqual({type(one) for one in answer}, {int})
        return answer

    def judged(self, t):
        return self.call(judge, text(t) if isinstance(t, str) else t)

    def found(self, t, s):
        return self.call(find, text(t) if isinstance(t, str) else t, text(s) if isinstance(s, str) else s)

    def assert_right(self, t, signs):
        self.assertEqual(self.judged(t), [signs], t)

    def assert_fault(self, t, kind, place):
        self.assertEqual(self.judged(t), [-6, kind, place], t)
        self.assertEqual(self.found(t, "A1"), [-6], t)


def many_signs(count):
    """Give the text of a list of that many signs, at most 26 * 999."""
    return "".join(f"sign {chr(65 + k // 999)}{k % 999 + 1}/#/" for k in range(count))
