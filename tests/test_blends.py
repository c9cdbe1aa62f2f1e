"""What layers do, and how values blend (points 2.7 and 2.8)."""

import copy
import math
import unittest
from fractions import Fraction

from onlythedirt.blends import blended, check_what
from onlythedirt.errors import BadWhat
from tests.wrong import NO_NUMBERS

RIGHT = (
    ("paint", 0, "over"), ("paint", 256, "over"), ("paint", 1, "add"), ("paint", 255, "times"), ("paint", 128, "add"),
    ("paint", 0, "times"), ("invert",), ("shift", 0), ("shift", -255), ("shift", 255), ("shift", 1), ("shift", -1),
)
COVERS = (0, 1, 127, 128, 129, 255, 256)
VALUES = (0, 1, 2, 100, 127, 128, 254, 255)
MODES = (("over",), ("add",), ("times",), ("invert",))
SHIFTS = tuple(("shift", n) for n in (-255, -254, -100, -1, 0, 1, 100, 254, 255))


def target(mode, value, paint):
    """The target as point 2.8 tells it, read off the point's words."""
    shifted = value + mode[1] if mode[0] == "shift" else 0
    return {
        "over": paint,
        "add": sorted((255, value + paint))[0],
        "times": math.floor(Fraction(value * paint, 255)),
        "invert": 255 - value,
        "shift": sorted((0, shifted, 255))[1],
    }[mode[0]]


def result(mode, value, paint, cover):
    return value + math.floor(Fraction((target(mode, value, paint) - value) * cover, 256))


class CheckTest(unittest.TestCase):
    def check_bad(self, what):
        with self.assertRaises(BadWhat) as caught:
            check_what(what)
        self.assertIs(caught.exception.place, what)

    def test_right_forms(self):
        for what in RIGHT:
            before = copy.deepcopy(what)
            self.assertIsNone(check_what(what))
            self.assertEqual(what, before)

    def test_all_opacities_and_shifts(self):
        for mode in ("over", "add", "times"):
            for opacity in range(257):
                self.assertIsNone(check_what(("paint", opacity, mode)))
        for n in range(-255, 256):
            self.assertIsNone(check_what(("shift", n)))

    def test_wrong_opacities(self):
        for opacity in NO_NUMBERS + (-1, 257, 10 ** 40):
            for mode in ("over", "add", "times"):
                self.check_bad(("paint", opacity, mode))

    def test_wrong_modes(self):
        modes = (
            "", "Over", "over ", "OVER", "ad", "adds", "time", "invert", "shift", "paint", None, True, False, 0, 1, (),
            ("over",), ["add"], ("over", "add", "times"), "overadd",
        )
        for mode in modes:
            self.check_bad(("paint", 128, mode))

    def test_wrong_shifts(self):
        for n in NO_NUMBERS + (-256, 256, 10 ** 40, -10 ** 40):
            self.check_bad(("shift", n))

    def test_wrong_words(self):
        words = ("", "Paint", "paints", "over", "INVERT", "shift ", "solid", None, True, False, 0, 1, (), ["invert"])
        for what in RIGHT:
            for word in words:
                self.check_bad((word,) + what[1:])

    def test_words_of_other_forms(self):
        self.check_bad(("paint", 7))
        self.check_bad(("invert", 7))
        self.check_bad(("invert", 256, "over"))
        self.check_bad(("shift", 100, "over"))
        self.check_bad(("paint",))
        self.check_bad(("shift",))

    def test_items_too_many_and_too_few(self):
        for what in RIGHT:
            for many in range(len(what)):
                self.check_bad(what[:many])
            for item in (None, 0, "", "over", (), what[-1]):
                self.check_bad(what + (item,))

    def test_what_is_no_tuple(self):
        for what in RIGHT:
            self.check_bad(list(what))
            self.check_bad((what,))
            self.check_bad([what])
        for value in (None, True, False, 0, 128, "", "paint", "invert", "shift", [], {}):
            self.check_bad(value)


class BlendedTest(unittest.TestCase):
    def test_the_example(self):
        results = [blended(("over",), 100, 200, cover) for cover in (0, 128, 255, 256)]
        self.assertEqual(results, [100, 150, 199, 200])

    def test_over(self):
        self.assertEqual([blended(("over",), 200, 100, cover) for cover in COVERS], [200, 199, 150, 150, 149, 100, 100])
        self.assertEqual([blended(("over",), 0, 255, cover) for cover in COVERS], [0, 0, 126, 127, 128, 254, 255])
        self.assertEqual([blended(("over",), 255, 0, cover) for cover in COVERS], [255, 254, 128, 127, 126, 0, 0])

    def test_add(self):
        self.assertEqual([blended(("add",), 100, 100, cover) for cover in COVERS], [100, 100, 149, 150, 150, 199, 200])
        self.assertEqual([blended(("add",), 200, 100, cover) for cover in COVERS], [200, 200, 227, 227, 227, 254, 255])
        self.assertEqual([blended(("add",), 255, 255, cover) for cover in COVERS], [255] * 7)
        self.assertEqual(blended(("add",), 155, 100, 256), 255)
        self.assertEqual(blended(("add",), 154, 100, 256), 254)

    def test_times(self):
        self.assertEqual([blended(("times",), 100, 128, cover) for cover in COVERS], [100, 99, 75, 75, 74, 50, 50])
        self.assertEqual([blended(("times",), 255, 7, 256), blended(("times",), 7, 255, 256)], [7, 7])
        self.assertEqual([blended(("times",), 0, 255, 256), blended(("times",), 255, 0, 256)], [0, 0])
        self.assertEqual([blended(("times",), 254, 254, 256), blended(("times",), 1, 254, 256)], [253, 0])

    def test_invert(self):
        self.assertEqual([blended(("invert",), 0, 9, cover) for cover in COVERS], [0, 0, 126, 127, 128, 254, 255])
        self.assertEqual([blended(("invert",), 255, 9, cover) for cover in COVERS], [255, 254, 128, 127, 126, 0, 0])
        self.assertEqual([blended(("invert",), 127, 9, 256), blended(("invert",), 128, 9, 256)], [128, 127])

    def test_shift(self):
        rising = [blended(("shift", 50), 100, 9, cover) for cover in COVERS]
        falling = [blended(("shift", -50), 100, 9, cover) for cover in COVERS]
        self.assertEqual(rising, [100, 100, 124, 125, 125, 149, 150])
        self.assertEqual(falling, [100, 99, 75, 75, 74, 50, 50])
        self.assertEqual([blended(("shift", 0), value, 9, 128) for value in VALUES], list(VALUES))

    def test_shifts_that_leave_the_values(self):
        self.assertEqual([blended(("shift", -101), 100, 9, cover) for cover in (0, 1, 256)], [100, 99, 0])
        self.assertEqual([blended(("shift", -100), 100, 9, 256), blended(("shift", -99), 100, 9, 256)], [0, 1])
        self.assertEqual([blended(("shift", 155), 100, 9, 256), blended(("shift", 154), 100, 9, 256)], [255, 254])
        self.assertEqual([blended(("shift", 156), 100, 9, cover) for cover in (0, 128, 256)], [100, 177, 255])
        self.assertEqual([blended(("shift", 255), 255, 9, 256), blended(("shift", -255), 0, 9, 256)], [255, 0])
        self.assertEqual([blended(("shift", 255), 0, 9, 256), blended(("shift", -255), 255, 9, 256)], [255, 0])

    def test_rounded_down_where_the_target_is_below(self):
        self.assertEqual(blended(("over",), 10, 9, 1), 9)
        self.assertEqual(blended(("over",), 10, 9, 255), 9)
        self.assertEqual(blended(("over",), 9, 10, 255), 9)
        self.assertEqual(blended(("times",), 10, 254, 1), 9)
        self.assertEqual(blended(("invert",), 128, 0, 1), 127)
        self.assertEqual(blended(("shift", -1), 10, 0, 1), 9)

    def test_every_mode_against_the_words_of_the_point(self):
        for mode in MODES + SHIFTS:
            for value in VALUES:
                for paint in VALUES:
                    for cover in COVERS:
                        self.assertEqual(
                            blended(mode, value, paint, cover), result(mode, value, paint, cover),
                            (mode, value, paint, cover),
                        )

    def test_the_result_is_a_value(self):
        for mode in MODES + SHIFTS:
            for value in range(256):
                for cover in COVERS:
                    self.assertIn(blended(mode, value, 255 - value // 2, cover), range(256))

    def test_the_value_of_the_paint_does_not_count_where_a_layer_adjusts(self):
        for mode in (("invert",),) + SHIFTS:
            self.assertEqual(len({blended(mode, 100, paint, 128) for paint in VALUES}), 1)


if __name__ == "__main__":
    unittest.main()
