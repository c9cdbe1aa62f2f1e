"""Extents and the items of frames (points 4.4 to 4.6)."""

import random
import unittest

from onlythedirt.film import Film, extent_of, items_at
from tests.filmwise import HIGH, LOW, example, offset, random_film, sheets
from tests.pointwise import points_in
from tests.wrong import exchanged

FULL = ("paint", 256, "over")
SOLID = ("solid", 9)
NONE = ((0, 9, None, 0, 0),)


def layer(box, moves=(), what=FULL, clips=((0, 9, SOLID, 0, 0),), name="a"):
    return (name, box, moves, what, clips)


def film_of(*layers):
    return Film(8, 6, 20, 10, list(layers))


def items_of(*layers, frame=0):
    return items_at(film_of(*layers), frame)


def picture(width, height, other=None, cover=0):
    """A picture with the cover 256, but for one point."""
    many = width * height
    return ("picture", (width, height, (7,) * many, tuple(cover if at == other else 256 for at in range(many))))


class ExtentTest(unittest.TestCase):
    def check(self, extent, box, moves=(), frame=0):
        one = layer(box, moves)
        found = extent_of(film_of(one), one, frame)
        self.assertEqual(found, extent)
        self.assertIs(type(found), type(extent))

    def test_inside_of_the_canvas(self):
        self.check((0, 0, 8, 6), (0, 0, 8, 6))
        self.check((2, 1, 5, 5), (2, 1, 3, 4))
        self.check((7, 5, 8, 6), (7, 5, 1, 1))

    def test_partly_outside_at_each_side(self):
        self.check((0, 1, 2, 3), (-1, 1, 3, 2))
        self.check((1, 0, 4, 1), (1, -1, 3, 2))
        self.check((7, 1, 8, 3), (7, 1, 3, 2))
        self.check((1, 5, 4, 6), (1, 5, 3, 2))
        self.check((0, 0, 8, 6), (-20, -20, 64, 64))
        self.check((0, 2, 8, 3), (-1, 2, 64, 1))
        self.check((0, 0, 1, 1), (-2, -3, 3, 4))
        self.check((7, 5, 8, 6), (7, 5, 64, 64))

    def test_wholly_outside_at_each_side(self):
        for box in (
            (-3, 1, 3, 2), (1, -2, 3, 2), (8, 1, 3, 2), (1, 6, 3, 2), (-1000, -1000, 64, 64), (1000, 1000, 64, 64),
            (1000, 0, 64, 64), (0, -1000, 64, 64), (-1, 0, 1, 1), (0, -1, 1, 1), (8, 0, 1, 1), (0, 6, 1, 1),
        ):
            self.check(None, box)

    def test_moves(self):
        moves = ((2, 3, -1), (4, -1, 1), (8, 0, 40))
        extents = [(3, 0, 6, 2)] * 3 + [(1, 1, 4, 3), (0, 2, 2, 4)] + [None] * 5
        for frame, extent in enumerate(extents):
            self.check(extent, (0, 1, 3, 2), moves, frame)
        self.check((0, 1, 2, 3), (0, 1, 3, 2), ((0, -1, 0),), 5)
        self.check((0, 0, 2, 3), (-1000, -1000, 2, 3), ((0, 1000, 1000),))
        self.check((7, 5, 8, 6), (1000, 1000, 5, 5), ((1, -993, -995),), 9)

    def test_a_layer_without_a_clip_has_an_extent(self):
        one = layer((1, 1, 2, 2), (), FULL, ())
        self.assertEqual(extent_of(film_of(one), one, 3), (1, 1, 3, 3))

    def test_each_place(self):
        for left in range(-5, 10):
            for top in range(-4, 8):
                one = layer((left, top, 4, 3))
                points = {(x, y) for x in range(8) for y in range(6) if 0 <= x - left < 4 and 0 <= y - top < 3}
                extent = extent_of(film_of(one), one, 0)
                self.assertEqual(points_in([extent] if extent else []), points)


class ItemsTest(unittest.TestCase):
    def test_the_example(self):
        self.assertEqual(items_at(example(), 0), [
            ((0, 0, 3, 2), (0, 0), ("solid", 50), 256, ("over",), True),
            ((1, 0, 3, 1), (1, 0), ("solid", 200), 256, ("over",), True),
        ])

    def test_no_layers(self):
        self.assertEqual(items_of(), [])

    def test_frames_without_a_clip(self):
        one = layer((0, 0, 2, 2), (), FULL, ((3, 2, SOLID, 0, 0), (6, 1, ("solid", 8), 0, 0)))
        found = [[item[2] for item in items_of(one, frame=frame)] for frame in range(9)]
        self.assertEqual(found, [[], [], [], [SOLID], [SOLID], [], [("solid", 8)], [], []])

    def test_extents_without_a_point(self):
        self.assertEqual(items_of(layer((8, 0, 2, 2))), [])
        self.assertEqual(items_of(layer((8, 0, 2, 2), (), ("invert",), NONE)), [])
        moving = layer((8, 0, 2, 2), ((0, 0, 0), (2, -2, 0)))
        self.assertEqual([len(items_of(moving, frame=frame)) for frame in range(3)], [0, 1, 1])

    def test_the_corner_lies_also_outside_of_the_canvas(self):
        self.assertEqual(items_of(layer((-2, 3, 4, 5), ((0, 1, -4),))), [
            ((0, 0, 3, 4), (-1, -1), SOLID, 256, ("over",), True),
        ])

    def test_opacities_and_fades(self):
        clips = ((0, 6, SOLID, 3, 1),)
        for opacity, levels in (
            (256, [64, 128, 192, 256, 256, 128]), (255, [63, 127, 191, 255, 255, 127]), (3, [0, 1, 2, 3, 3, 1]),
            (1, [0, 0, 0, 1, 1, 0]), (0, [0] * 6),
        ):
            for mode in ("over", "add", "times"):
                one = layer((0, 0, 2, 2), (), ("paint", opacity, mode), clips)
                found = [items_of(one, frame=frame) for frame in range(6)]
                self.assertEqual([item[0][3] if item else 0 for item in found], levels)
                self.assertEqual([len(item) for item in found], [1 if level else 0 for level in levels])
                self.assertEqual([item[0][4] for item in found if item], [(mode,)] * (6 - levels.count(0)))

    def test_a_fade_whose_level_is_zero(self):
        one = layer((0, 0, 2, 2), (), FULL, ((0, 300, SOLID, 300, 0),))
        self.assertEqual(items_of(one, frame=0), [])
        self.assertEqual(items_of(one, frame=1)[0][3], 1)

    def test_layers_that_adjust(self):
        for what in (("invert",), ("shift", 5), ("shift", 0)):
            found = items_of(layer((1, 1, 2, 2), ((0, 0, 1),), what, NONE))
            self.assertEqual(found, [((1, 2, 3, 4), (1, 2), None, 256, what, False)])

    def test_the_order(self):
        layers = [layer((0, 0, 2, 2), name=name, clips=((0, 9, ("solid", at), 0, 0),)) for at, name in enumerate("cab")]
        layers.insert(1, layer((0, 0, 2, 2), (), ("invert",), NONE, name="z"))
        self.assertEqual([item[2] for item in items_of(*layers)], [("solid", 0), None, ("solid", 1), ("solid", 2)])

    def test_it_is_a_new_list_of_tuples(self):
        film = example()
        found = items_at(film, 0)
        self.assertEqual({type(item) for item in found}, {tuple})
        found.clear()
        self.assertEqual(len(items_at(film, 0)), 2)
        self.assertEqual(film.layers, [LOW, HIGH])

    def test_random_films_against_the_words_of_the_points(self):
        source = random.Random(79)
        for _ in range(150):
            film = random_film(source)
            for frame in range(film.frames):
                found = items_at(film, frame)
                self.assertEqual([(points_in([item[0]]),) + item[1:] for item in found], sheets(film, frame))
                for item in found:
                    self.assertIs(type(item[5]), bool)

    def test_extents_of_random_films(self):
        source = random.Random(83)
        for _ in range(100):
            film = random_film(source)
            for one in film.layers:
                for frame in range(0, film.frames, 3):
                    dx, dy = offset(one[2], frame)
                    left, top, width, height = one[1]
                    whole = (left + dx, top + dy, left + dx + width, top + dy + height)
                    canvas = (0, 0, film.width, film.height)
                    extent = extent_of(film, one, frame)
                    points = points_in([whole]) & points_in([canvas])
                    self.assertEqual(points_in([extent] if extent else []), points)


class HidesTest(unittest.TestCase):
    def check(self, hides, one, frame=0):
        self.assertIs(items_of(one, frame=frame)[0][5], hides)

    def painted(self, paint, width=2, height=2, what=FULL):
        return layer((0, 0, width, height), (), what, ((0, 9, paint, 0, 0),))

    def test_modes(self):
        self.check(True, self.painted(SOLID))
        for mode in ("add", "times"):
            self.check(False, self.painted(SOLID, what=("paint", 256, mode)))
        for what in (("invert",), ("shift", 5)):
            self.check(False, layer((0, 0, 2, 2), (), what, NONE))

    def test_levels(self):
        self.check(False, self.painted(SOLID, what=("paint", 255, "over")))
        fading = layer((0, 0, 2, 2), (), FULL, ((0, 5, SOLID, 2, 1),))
        for frame, hides in enumerate((False, False, True, True, False)):
            self.check(hides, fading, frame)

    def test_solids_and_steps(self):
        for paint in (SOLID, ("solid", 0), ("steps", 0, 255, 12)):
            for width, height in ((1, 1), (12, 12), (13, 13), (64, 64)):
                self.check(True, self.painted(paint, width, height))

    def test_pictures_as_large_as_the_box_and_smaller(self):
        for width in range(1, 6):
            for height in range(1, 6):
                self.check(width <= 3 and height <= 4, self.painted(picture(3, 4), width, height))

    def test_covers_within_the_box_and_outside_of_it(self):
        for at in range(12):
            for cover in (0, 255):
                for width in range(1, 4):
                    for height in range(1, 5):
                        inside = at % 3 < width and at // 3 < height
                        self.check(not inside, self.painted(picture(3, 4, at, cover), width, height))

    def test_what_lies_outside_of_the_canvas_counts(self):
        half = layer((-1, 0, 2, 1), (), FULL, ((0, 9, picture(2, 1, 0), 0, 0),))
        self.check(False, half)
        self.check(True, exchanged(half, {4: ((0, 9, picture(2, 1), 0, 0),)}))


if __name__ == "__main__":
    unittest.main()
