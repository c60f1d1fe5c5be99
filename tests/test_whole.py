"""What holds for all the calls: their arguments, large lists in good time, and that nothing is kept."""

import inspect
import random
import time
import unittest

from signlists import lists
from tests.drawing import drawn, written
from tests.helpers import CallCase, LAST, many_signs, text

ARGUMENTS = {
    "judge": ["t"], "find": ["t", "s"], "name": ["k", "t"], "size": ["k", "t"], "sound": ["k", "i", "t"],
    "moved": ["k", "m", "t"], "alike": ["i", "j", "t"], "next_of": ["i", "t"],
}
# Many times what any call needs, so that a slow machine is not taken for a slow program.
SECONDS = 5


def calls_of(t, k, i, m, s):
    """Give each call with its arguments, the numbers and s being handed in wherever they fit."""
    return [
        (lists.judge, (t,)), (lists.find, (t, s)), (lists.name, (k, t)), (lists.size, (k, t)),
        (lists.sound, (k, i, t)), (lists.moved, (k, m, t)), (lists.alike, (k, i, t)), (lists.next_of, (k, t)),
    ]


def nearly_100000_bytes(shapes):
    """Give the text of a list of as many signs as fit, with these shapes by turns; the last sign's is another one."""
    t = ""
    last = "sign B1 x/#.#####/"
    for number in range(511):
        sign = f"sign A{number + 1} a b c d e f g h/" + shapes[number % len(shapes)]
        if len(t) + len(sign) + len(last) > 100000:
            break
        t += sign
    return t + last


class Interface(unittest.TestCase):
    def test_names_and_arguments(self):
        for name, arguments in ARGUMENTS.items():
            parameters = inspect.signature(getattr(lists, name)).parameters.values()
            self.assertEqual([one.name for one in parameters], arguments, name)
            self.assertTrue(all(one.default is inspect.Parameter.empty for one in parameters), name)


class InGoodTime(CallCase):
    def assert_in_good_time(self, t, numbers):
        t = text(t) if isinstance(t, str) else t
        before = list(t)
        for number in numbers:
            for function, arguments in calls_of(t, number, number, number % 8, text("B1")):
                start = time.process_time()
                function(*arguments)
                self.assertLess(time.process_time() - start, SECONDS, function.__name__)
        self.assertEqual(t, before)

    def test_512_signs(self):
        t = many_signs(512)
        self.assertEqual(self.judged(t), [512])
        self.assert_in_good_time(t, (0, 255, 511, 512, LAST))

    def test_512_signs_behind_a_large_one(self):
        large = "sign A1/" + written(["#" * 32] * 32)
        t = large + "".join(f"sign B{k}/#/" for k in range(1, 512))
        self.assertEqual(self.judged(t), [512])
        self.assertEqual(self.following(0, t), [-5])
        self.assert_in_good_time(t, (0, 1, 511))

    def test_nearly_100000_bytes(self):
        corner = written(drawn(32, 32, lambda x, y: (x, y) != (31, 31)))
        middle = written(drawn(32, 32, lambda x, y: (x, y) != (15, 14)))
        board = written(drawn(32, 32, lambda x, y: (x + y) % 2 == 0))
        for shapes in ([corner], [corner, middle, board], [board], [written(["#" * 32] * 5)], ["#####/" * 32]):
            t = nearly_100000_bytes(shapes)
            signs = self.judged(t)[0]
            self.assertTrue(1 < signs <= 512 and len(t) <= 100000)
            self.assertGreater(len(t), 97000 if signs == 512 else 98000)
            self.assertEqual(self.found(t, "B1"), [signs - 1])
            self.assertEqual(self.named(signs - 1, t), [2] + text("B1"))
            self.assertEqual(self.sized(signs - 1, t), [0, 7, 1, 6, 1, 2, 0])
            self.assertEqual(self.sounded(signs - 1, 0, t), [1] + text("x"))
            self.assertEqual(self.moved(signs - 1, 6, t), [8] + text("#.#####/"))
            self.assertEqual(self.likened(signs - 1, 0, t), [-5])
            self.assertEqual(self.following(0, t), [len(shapes)])
            self.assertEqual(self.following(signs - 2, t), [-5])
            self.assert_in_good_time(t, (0, signs - 2, signs - 1, signs))

    def test_512_signs_in_nearly_100000_bytes(self):
        t = nearly_100000_bytes([written(["#" * 32] * 5)])
        self.assertEqual(self.judged(t), [512])
        self.assertGreater(len(t), 97000)

    def test_texts_of_100000_bytes_that_are_no_lists(self):
        for t in ("/" * 100000, " " * 100000, "sign " * 20000, "sign A1/" + "#" * 99992, "sign A1" + " a" * 49996):
            self.assert_in_good_time(t, (0, LAST))
        self.assert_in_good_time([255] * 100000, (0, LAST))
        self.assert_in_good_time(nearly_100000_bytes([written(["#" * 32] * 5)])[:-1], (0, 511))


class NothingIsKept(CallCase):
    def test_any_call_answers_as_the_first_time(self):
        source = random.Random(9)
        texts = [text(one) for one in (
            "sign A1 a ba/##./#.#/sign A2/#/", "sign A1/##/#./sign A2 b/#/sign A3 c a/#./##/", "sign A1/#", "",
            "sign B1 a b c d e f g h/###/#.#/###/sign B2/#/", "sign A2/#/sign A1/#/",
        )]
        calls = []
        for t in texts:
            for numbers in ((0, 0, 0), (0, 1, 5), (1, 0, 7), (2, 2, 8), (LAST, LAST, LAST)):
                calls += calls_of(t, *numbers, text("A2"))
        before = [list(t) for t in texts]
        first = [self.call(function, *arguments) for function, arguments in calls]
        for _ in range(2000):
            which = source.randrange(len(calls))
            function, arguments = calls[which]
            answer = function(*arguments)
            self.assertEqual(answer, first[which])
            # What is done to an answer must not be seen in a later one.
            answer[0] = 7
            answer.append(7)
        self.assertEqual(texts, before)
