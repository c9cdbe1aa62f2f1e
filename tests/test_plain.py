"""Shown values (point 4.7)."""

import random
import unittest

from onlythedirt.film import Film
from onlythedirt.plain import picture_of, shown
from tests.filmwise import HIGH, LOW, everything, example, picture, random_film

FULL = ("paint", 256, "over")
FLAG = ("picture", (2, 2, (100, 110, 120, 130), (256, 128, 0, 255)))
ALWAYS = ((0, 9, None, 0, 0),)


def painted(name, box, paint, what=FULL, fades=(0, 0), moves=()):
    return (name, box, moves, what, ((0, 9, paint) + fades,))


def adjusting(name, box, what, moves=()):
    return (name, box, moves, what, ALWAYS)


class PlainCase(unittest.TestCase):
    def check(self, rows, width, height, background, *layers, frame=0):
        film = Film(width, height, 20, background, list(layers))
        self.assertEqual(picture_of(film, frame), rows)
        self.assertEqual([[shown(film, frame, x, y) for x in range(width)] for y in range(height)], rows)


class PictureTest(PlainCase):
    def test_the_example(self):
        rows = [[50, 200, 200, 10], [50, 50, 50, 10]]
        self.assertEqual(picture_of(example(), 0), rows)
        self.check(rows, 4, 2, 10, LOW, HIGH)
        self.check([[50, 50, 50, 10]] * 2, 4, 2, 10, HIGH, LOW)

    def test_the_background_alone(self):
        for background in (0, 1, 254, 255):
            self.check([[background] * 3] * 2, 3, 2, background)
        self.check([[10] * 4] * 2, 4, 2, 10, LOW, HIGH, frame=9)

    def test_the_smallest_and_the_widest_canvas(self):
        self.check([[50]], 1, 1, 10, LOW)
        self.check([[50] * 3 + [10] * 61] * 2 + [[10] * 64] * 62, 64, 64, 10, LOW)

    def test_a_picture_with_covers(self):
        # 200 becomes 200 + (110 - 200) * 128 // 256 = 155, and 200 + (130 - 200) * 255 // 256 = 130.
        self.check([[200] * 4, [200, 100, 155, 200], [200, 200, 130, 200]], 4, 3, 200,
                   painted("a", (1, 1, 3, 2), FLAG))

    def test_a_picture_that_is_larger_than_the_box(self):
        self.check([[100, 200], [200, 200]], 2, 2, 200, painted("a", (0, 0, 1, 1), FLAG))

    def test_steps_count_from_the_corner(self):
        steps = ("steps", 1, 9, 2)
        self.check([[9, 1, 1, 9], [9, 1, 1, 9]], 4, 2, 0, painted("a", (-3, 0, 9, 2), steps))
        self.check([[1, 1, 9, 9], [9, 9, 1, 1]], 4, 2, 0, painted("a", (0, -1, 9, 9), steps))
        self.check([[0, 1, 1, 9]], 4, 1, 0, painted("a", (0, 0, 9, 1), steps, moves=((0, 1, 0),)))

    def test_opacities_and_fades_lower_the_cover(self):
        # The level is 128 * 64 // 256 = 32, and 200 + (100 - 200) * 32 // 256 = 187.
        half = painted("a", (0, 0, 1, 1), ("solid", 100), ("paint", 128, "over"), (3, 0))
        self.check([[187, 200]], 2, 1, 200, half)
        # With the level 128, the cover is 256 * 128 // 256, 128 * 128 // 256, 0 and 255 * 128 // 256.
        self.check([[150, 177], [200, 165]], 2, 2, 200, painted("a", (0, 0, 2, 2), FLAG, ("paint", 128, "over")))

    def test_modes(self):
        for mode, value in (("over", 60), ("add", 210), ("times", 35)):
            self.check([[value, 150]], 2, 1, 150, painted("a", (0, 0, 1, 1), ("solid", 60), ("paint", 256, mode)))
        for mode, value in (("over", 105), ("add", 180), ("times", 92)):
            self.check([[value, 150]], 2, 1, 150, painted("a", (0, 0, 1, 1), ("solid", 60), ("paint", 128, mode)))
        self.check([[255, 200]], 2, 1, 200, painted("a", (0, 0, 1, 1), ("solid", 56), ("paint", 256, "add")))

    def test_layers_that_adjust(self):
        self.check([[105, 150]], 2, 1, 150, adjusting("a", (0, 0, 1, 1), ("invert",)))
        self.check([[190, 150]], 2, 1, 150, adjusting("a", (0, 0, 1, 1), ("shift", 40)))
        self.check([[0, 150]], 2, 1, 150, adjusting("a", (0, 0, 1, 1), ("shift", -151)))
        self.check([[255, 150]], 2, 1, 150, adjusting("a", (0, 0, 1, 1), ("shift", 255)))

    def test_what_is_below_is_adjusted_and_what_is_above_is_not(self):
        low, high = painted("low", (0, 0, 3, 1), ("solid", 50)), painted("high", (2, 0, 1, 1), ("solid", 60))
        between = adjusting("a", (1, 0, 2, 1), ("invert",))
        self.check([[50, 205, 60, 10]], 4, 1, 10, low, between, high)
        self.check([[50, 205, 195, 10]], 4, 1, 10, low, high, between)
        self.check([[50, 50, 60, 10]], 4, 1, 10, between, low, high)

    def test_several_layers_one_above_the_other(self):
        # 100, inverted 155, half of 255 over it 205, times 128 gives 102, shifted 92.
        layers = (
            painted("a", (0, 0, 1, 1), ("solid", 100)), adjusting("b", (0, 0, 1, 1), ("invert",)),
            painted("c", (0, 0, 1, 1), ("solid", 255), ("paint", 128, "over")),
            painted("d", (0, 0, 1, 1), ("solid", 128), ("paint", 256, "times")),
            adjusting("e", (0, 0, 1, 1), ("shift", -10)),
        )
        values = (100, 155, 205, 102, 92)
        for many in range(1, 6):
            self.check([[values[many - 1], 7]], 2, 1, 7, *layers[:many])

    def test_frames(self):
        clips = ((0, 3, ("solid", 1), 0, 0), (4, 1, ("solid", 2), 0, 0))
        moving = ("a", (0, 0, 1, 1), ((1, 0, 0), (3, 2, 0)), FULL, clips)
        rows = ([1, 0, 0], [1, 0, 0], [0, 1, 0], [0, 0, 0], [0, 0, 2], [0, 0, 0])
        for frame, row in enumerate(rows):
            self.check([row], 3, 1, 0, moving, frame=frame)

    def test_random_films_against_the_words_of_the_point(self):
        source = random.Random(89)
        for _ in range(120):
            film = random_film(source)
            before = everything(film)
            for frame in range(film.frames):
                rows = picture(film, frame)
                self.assertEqual(picture_of(film, frame), rows)
                x, y = source.randrange(film.width), source.randrange(film.height)
                self.assertEqual(shown(film, frame, x, y), rows[y][x])
            self.assertEqual(everything(film), before)

    def test_the_rows_are_new_lists(self):
        film = example()
        found = picture_of(film, 0)
        self.assertEqual([type(found)] + [type(row) for row in found], [list] * 3)
        found[0][0] = 99
        found[1].clear()
        self.assertEqual(picture_of(film, 0), [[50, 200, 200, 10], [50, 50, 50, 10]])


if __name__ == "__main__":
    unittest.main()
