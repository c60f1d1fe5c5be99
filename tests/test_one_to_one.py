"""Lists and their texts are one to one; of any other text the one first fault is told."""

import random
import unittest

from signlists.lists import judge
from tests import reference
from tests.helpers import text

BASES = (
    "sign A1 a ba/##./#.#/sign A2/#/",
    "sign A9z/#/sign A10 x/.#/#./sign Aa1/##/",
    "sign B1 a b c d e f g h/#/#/",
    "sign A1/" + "#/" * 32 + "sign A2/" + "#" * 32 + "/",
)
BYTES = sorted(set(text("sign A10zZ9b#./") + [0, 9, 13, 255]))
PIECES = [
    "sign", "sign ", "sign A1/", "sign A2/", "sign A10/", "sign Aa1/", "sign B1 a/", "sign B2 a a/", "sign C1",
    "sign C1 a b c d e f g h/", "sign C1 a b c d e f g h i/", " ", " a", " b", " A", "/", "/", "#/", "#/", "##/",
    "#./.#/", "./", ".#/", "#", ".", "x", "#/" * 31, "#" * 32 + "/", "#" * 33 + "/",
]


def single_changes(base):
    for place in range(len(base) + 1):
        yield base[:place]
        yield base[:place] + base[place + 1:]
        for byte in BYTES:
            yield base[:place] + [byte] + base[place:]
            yield base[:place] + [byte] + base[place + 1:]


class OneToOne(unittest.TestCase):
    def check(self, t):
        answer = judge(t)
        self.assertEqual(answer, reference.judge(t), bytes(t))
        self.assertEqual(answer[0] >= 0, reference.is_list(bytes(t)), bytes(t))
        return answer[0] >= 0

    def test_all_single_changes(self):
        for base in BASES:
            self.assertTrue(self.check(text(base)))
            for changed in single_changes(text(base)):
                self.check(changed)

    def test_texts_put_together_of_pieces(self):
        source = random.Random(1)
        right = 0
        for _ in range(20000):
            start = source.choice(("", "sign A1/", "sign A1 a/#/", "sign A2/##/##/"))
            right += self.check(text(start + "".join(source.choices(PIECES, k=source.randint(0, 6)))))
        self.assertGreater(right, 1000)

    def test_right_texts_with_a_piece_in_place_of_a_part(self):
        source = random.Random(2)
        for _ in range(3000):
            base = source.choice(BASES)
            place = source.randint(0, len(base))
            self.check(text(base[:place] + source.choice(PIECES) + base[source.randint(place, len(base)):]))
