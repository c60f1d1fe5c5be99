"""The examples of the document's run, and its ways to get it wrong."""

from tests.helpers import CallCase, text

RUN = "sign A1 a ba/##./#.#/sign A2/#/"


class Run(CallCase):
    def test_judge(self):
        self.assert_right(RUN, 2)

    def test_find(self):
        self.assertEqual(self.found(RUN, "A2"), [1])
        self.assertEqual(self.found(RUN, "A1"), [0])
        self.assertEqual(self.found(RUN, "A02"), [-5])

    def test_name(self):
        self.assertEqual(self.named(0, RUN), [2] + text("A1"))
        self.assertEqual(self.named(1, RUN), [2] + text("A2"))

    def test_size(self):
        self.assertEqual(self.sized(0, RUN), [0, 3, 2, 4, 2, 1, 0])
        self.assertEqual(self.sized(1, RUN), [0, 1, 1, 1, 0, 1, 0])

    def test_sound(self):
        self.assertEqual(self.sounded(0, 0, RUN), [1] + text("a"))
        self.assertEqual(self.sounded(0, 1, RUN), [2] + text("ba"))
        self.assertEqual(self.sounded(1, 0, RUN), [-4])

    def test_moved(self):
        self.assertEqual(self.moved(0, 1, RUN), [9] + text("##/.#/#./"))

    def test_alike(self):
        self.assertEqual(self.likened(0, 1, RUN), [-5])
        self.assertEqual(self.likened(0, 0, RUN), [0])
        self.assertEqual(self.following(0, RUN), [-5])

    def test_shapes(self):
        for shape in ("###/#.#/###/", "#.#/.../#.#/", ".#./#.#/.#./"):
            self.assert_right("sign A1/" + shape, 1)
        self.assert_ink_pieces_holes("###/#.#/###/", ink=8, pieces=1, holes=1)
        self.assert_ink_pieces_holes("#.#/.../#.#/", ink=4, pieces=4, holes=0)
        self.assert_ink_pieces_holes(".#./#.#/.#./", ink=4, pieces=1, holes=1)

    def test_faults(self):
        self.assert_fault("sign A2/#/sign A1/#/", 2, 15)
        self.assert_fault("sign A1/", 1, 8)
        self.assert_fault("sign A1/##./##./", 4, 0)
        self.assert_fault("", 1, 0)
        self.assert_fault("sign A1/#", 1, 9)


class WaysToGetItWrong(CallCase):
    def test_a_needless_0(self):
        self.assert_fault("sign A01/#/", 1, 5)

    def test_names_in_order_of_bytes(self):
        self.assert_right("sign A2/#/sign A10/#/", 2)
        self.assert_fault("sign A10/#/sign A2/#/", 2, 16)

    def test_a_kind_before_none(self):
        self.assert_right("sign A1/#/sign A1a/#/", 2)
        self.assert_fault("sign A1a/#/sign A1/#/", 2, 16)

    def test_a_sound_twice(self):
        self.assert_fault("sign A1 a ba a/#/", 2, 13)

    def test_an_empty_last_column(self):
        self.assert_fault("sign A1/#./#./", 4, 0)

    def test_a_33rd_row_is_told_at_the_row(self):
        self.assert_fault("sign A1/" + "#/" * 33, 3, 8 + 64)

    def test_turned_against_the_clock(self):
        self.assertEqual(self.moved(0, 1, "sign A1/##/#./"), [6] + text("##/.#/"))
        self.assertEqual(self.moved(0, 3, "sign A1/##/#./"), [6] + text("#./##/"))
        self.assertEqual(self.likened(0, 1, "sign A1/##/#./sign A2/##/.#/"), [1])
        self.assertEqual(self.likened(1, 0, "sign A1/##/#./sign A2/##/.#/"), [3])

    def test_mirrored_behind_the_turns(self):
        self.assertEqual(self.moved(0, 5, "sign A1/##/#./"), [6] + text(".#/##/"))
        self.assertEqual(self.moved(0, 7, "sign A1/##/#./"), [6] + text("##/#./"))
        self.assertEqual(self.likened(0, 1, "sign A1/##./#.#/sign A2/#./.#/##/"), [5])
        self.assertEqual(self.likened(0, 1, "sign A1/##./#.#/sign A2/##/#./.#/"), [7])

    def test_the_last_motion_told(self):
        self.assertEqual(self.likened(0, 1, "sign A1/##/sign A2/#/#/"), [1])
        self.assertEqual(self.likened(0, 1, "sign A1/##./.##/sign A2/.##/##./"), [4])
        self.assertEqual(self.likened(0, 0, "sign A1/##/"), [0])

    def test_pieces_by_sides_alone(self):
        self.assert_ink_pieces_holes("#./.#/", ink=2, pieces=1, holes=0)
        self.assert_ink_pieces_holes(".#/#./", ink=2, pieces=1, holes=0)

    def test_holes_by_corners_too(self):
        self.assert_ink_pieces_holes("####/#.##/##.#/####/", ink=14, pieces=1, holes=2)
        self.assert_ink_pieces_holes(".##/#.#/###/", ink=7, pieces=1, holes=1)

    def test_the_outside_counted_as_a_hole(self):
        self.assert_ink_pieces_holes("#/", ink=1, pieces=1, holes=0)
        self.assert_ink_pieces_holes("###/#../###/", ink=7, pieces=1, holes=0)

    def test_a_name_is_not_found_by_its_beginning(self):
        self.assertEqual(self.found("sign A12/#/", "A1"), [-5])
        self.assertEqual(self.found("sign A1/#/", "A12"), [-5])

    def test_a_last_line_without_its_end(self):
        self.assert_fault("sign A1/#/#", 1, 11)

    def test_the_sign_before_comes_before_the_sign_line(self):
        self.assert_fault("sign A1/#./sign A0/#/", 4, 0)
        self.assert_fault("sign A1/sign A0/#/", 1, 8)
