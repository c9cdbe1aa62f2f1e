"""Stacks and dirt (points 4.8 and 4.9)."""

import random
import unittest

from onlythedirt.dirt import dirt_of, stack_at
from onlythedirt.film import Film
from onlythedirt.plain import picture_of
from onlythedirt.regions import holds, is_region
from tests.filmwise import (
    HIGH, LOW, NAMES, dirt, everything, example, random_box, random_film, random_layer, random_moves, stack,
)
from tests.wrong import exchanged

OVER = ("over",)
FULL = ("paint", 256, "over")
SOLID = (("solid", 50), None, 256, OVER)
PICTURE = ("picture", (2, 1, (1, 2), (256, 256)))
HOLED = ("picture", (2, 1, (1, 2), (256, 255)))
STEPS = ("steps", 0, 255, 2)


def layer(name, paint=("solid", 9), what=FULL, box=(0, 0, 2, 1), moves=()):
    return (name, box, moves, what, ((0, 9, paint, 0, 0),))


def film_of(*layers, background=10):
    return Film(4, 2, 9, background, list(layers))


def changed(source, film):
    """A film of the same size that differs from a film in a few things."""
    layers = film.layers
    background = source.choice((film.background,) * 5 + (10, 11))
    for place, (name, box, moves, what, clips) in enumerate(film.layers):
        chance = source.randrange(8)
        free = [other for other in NAMES if other not in [one[0] for one in layers]]
        if chance == 0:
            layers[place] = (name, random_box(source), moves, what, clips)
        if chance == 1:
            layers[place] = (name, box, random_moves(source), what, clips)
        if chance == 2:
            layers[place] = random_layer(source, name)
        if chance == 3:
            layers[place] = (source.choice(free or [name]), box, moves, what, clips)
        if chance == 4 and what[0] == "paint":
            layers[place] = (name, box, moves, ("paint", source.randrange(257), what[2]), clips)
    if len(layers) > 1 and not source.randrange(4):
        layers.append(layers.pop(source.randrange(len(layers))))
    return Film(film.width, film.height, film.frames, background, layers)


class StackTest(unittest.TestCase):
    def check(self, expected, *layers, x=0, y=0, frame=0):
        found = stack_at(film_of(*layers), frame, x, y)
        self.assertEqual(found, expected)
        self.assertIs(type(found), list)
        self.assertEqual([type(entry) for entry in found], [type(entry) for entry in expected])

    def test_the_background_alone(self):
        self.check([10])
        self.check([10], LOW, HIGH, x=3)
        self.check([10], LOW, HIGH, frame=9)

    def test_what_hides_all_below_ends_it(self):
        high = (("solid", 200), None, 256, OVER)
        self.check([SOLID], LOW, HIGH)
        self.check([high], LOW, HIGH, x=1)
        self.check([SOLID], LOW, HIGH, x=1, y=1)
        self.check([SOLID], HIGH, LOW, x=1)
        self.check([high], HIGH, x=1)

    def test_from_the_top_down(self):
        half = ("paint", 128, "over")
        layers = [layer("a", ("solid", 1), half), layer("b", ("solid", 2), half), layer("c", ("solid", 3), half)]
        entries = [(("solid", value), None, 128, OVER) for value in (3, 2, 1)]
        self.check(entries + [10], *layers)
        self.check(entries + [SOLID], LOW, *layers)
        self.check(entries[:1] + [SOLID], *layers[:2], LOW, layers[2])

    def test_an_entry_only_where_the_item_covers_the_point(self):
        half = layer("a", ("solid", 1), ("paint", 128, "over"), (1, 1, 2, 1))
        entry = (("solid", 1), None, 128, OVER)
        self.check([entry, 10], half, x=1, y=1)
        self.check([entry, 10], half, x=2, y=1)
        for x, y in ((0, 1), (3, 1), (1, 0), (2, 0)):
            self.check([10], half, x=x, y=y)

    def test_corners(self):
        moves = ((0, -1, -1),)
        for paint in (PICTURE, HOLED, STEPS):
            hides = paint != HOLED
            end = [] if hides else [10]
            self.check([(paint, (0, 0), 256, OVER)] + end, layer("a", paint))
            self.check([(paint, (-1, 0), 256, OVER)] + end, layer("a", paint, box=(0, 1, 2, 1), moves=moves))
        self.check([(("solid", 9), None, 256, OVER)], layer("a", box=(0, 1, 2, 1), moves=moves))
        adjusting = ("a", (1, 1, 2, 1), moves, ("invert",), ((0, 9, None, 0, 0),))
        self.check([(None, None, 256, ("invert",)), 10], adjusting)

    def test_modes_of_paints(self):
        for mode in ("add", "times"):
            self.check([(("solid", 9), None, 256, (mode,)), SOLID], LOW, layer("a", what=("paint", 256, mode)))
            self.check([(("solid", 9), None, 3, (mode,)), SOLID], LOW, layer("a", what=("paint", 3, mode)))
        self.check([(("solid", 9), None, 255, OVER), SOLID], LOW, layer("a", what=("paint", 255, "over")))

    def test_modes_of_layers_that_adjust(self):
        for what in (("invert",), ("shift", 40), ("shift", -255), ("shift", 0)):
            one = ("a", (0, 0, 2, 1), (), what, ((0, 9, None, 0, 0),))
            self.check([(None, None, 256, what), SOLID], LOW, one)
            self.check([SOLID], one, LOW)

    def test_levels(self):
        fading = ("a", (0, 0, 2, 1), (), ("paint", 128, "over"), ((0, 9, ("solid", 9), 3, 1),))
        for frame, level in ((0, 32), (1, 64), (2, 96), (3, 128), (7, 128), (8, 64)):
            self.check([(("solid", 9), None, level, OVER), 10], fading, frame=frame)

    def test_what_is_no_item_is_not_in_it(self):
        self.check([SOLID], LOW, layer("a", what=("paint", 0, "over")))
        self.check([SOLID], LOW, exchanged(layer("a"), {4: ((1, 9, ("solid", 9), 0, 0),)}))

    def test_names_are_not_part_of_it(self):
        for name in ("a", "b", "low"):
            self.check([(PICTURE, (0, 0), 256, OVER)], layer(name, PICTURE))

    def test_it_is_a_new_list(self):
        film = example()
        stack_at(film, 0, 0, 0).clear()
        self.assertEqual(stack_at(film, 0, 0, 0), [SOLID])

    def test_random_films_against_the_words_of_the_point(self):
        source = random.Random(97)
        for _ in range(60):
            film = random_film(source)
            for frame in range(0, film.frames, 2):
                for x in range(film.width):
                    for y in range(film.height):
                        self.assertEqual(stack_at(film, frame, x, y), stack(film, frame, x, y))


class DirtTest(unittest.TestCase):
    def check(self, region, first, second, frame=0):
        self.assertEqual(dirt_of(first, second, frame), region)
        self.assertEqual(dirt_of(second, first, frame), region)
        self.assertIs(is_region(dirt_of(first, second, frame)), True)

    def test_the_example(self):
        moved = exchanged(LOW, {1: (1, 0, 3, 2)})
        self.check([(0, 0, 1, 2), (3, 0, 4, 2)], example(), film_of(moved, HIGH))

    def test_equal_films(self):
        self.check([], example(), example())
        self.check([], film_of(), film_of())

    def test_a_frame_without_clips(self):
        self.check([], film_of(exchanged(LOW, {4: ()})), film_of(exchanged(HIGH, {4: ()})))

    def test_a_name_alone(self):
        self.check([], example(), film_of(exchanged(LOW, {0: "other"}), HIGH))
        self.check([], example(), film_of(exchanged(LOW, {0: "high"}), exchanged(HIGH, {0: "low"})))

    def test_a_paint(self):
        other = exchanged(LOW, {4: ((0, 9, ("solid", 51), 0, 0),)})
        self.check([(0, 0, 1, 1), (0, 1, 3, 2)], example(), film_of(other, HIGH))
        self.check([(0, 0, 2, 1)], film_of(layer("a", PICTURE)), film_of(layer("a", HOLED)))

    def test_an_opacity(self):
        other = exchanged(HIGH, {3: ("paint", 255, "over")})
        self.check([(1, 0, 3, 1)], example(), film_of(LOW, other))

    def test_an_opacity_of_zero_and_no_layer(self):
        self.check([], film_of(LOW), film_of(LOW, exchanged(HIGH, {3: ("paint", 0, "over")})))

    def test_the_background(self):
        self.check([(3, 0, 4, 2)], example(), film_of(LOW, HIGH, background=11))
        self.check([(0, 0, 4, 2)], film_of(), film_of(background=0))
        whole = layer("a", box=(0, 0, 4, 2))
        self.check([], film_of(whole), film_of(whole, background=11))

    def test_what_is_hidden_by_a_layer_above(self):
        below = layer("a", box=(1, 0, 2, 1))
        self.check([], example(), film_of(below, LOW, HIGH))
        self.check([], film_of(HIGH), film_of(below, HIGH))
        self.check([(1, 0, 3, 1)], film_of(LOW), film_of(LOW, below))

    def test_what_is_below_a_layer_that_does_not_hide(self):
        top = layer("top", ("solid", 7), ("paint", 255, "over"), (0, 0, 4, 2))
        self.check([(1, 0, 2, 2)], film_of(layer("a", box=(1, 0, 1, 2)), top), film_of(top))
        inverting = ("top", (0, 0, 4, 2), (), ("invert",), ((0, 9, None, 0, 0),))
        self.check([(1, 0, 2, 2)], film_of(layer("a", box=(1, 0, 1, 2)), inverting), film_of(inverting))

    def test_values_that_are_equal_by_chance_are_dirt(self):
        self.check([(0, 0, 2, 1)], film_of(layer("a", ("solid", 10))), film_of())
        self.check([(0, 0, 2, 1)], film_of(layer("a", ("solid", 3))), film_of(layer("a", ("steps", 3, 3, 2))))

    def test_corners(self):
        for paint in (PICTURE, STEPS):
            first, second = film_of(layer("a", paint)), film_of(layer("a", paint, box=(1, 0, 2, 1)))
            self.check([(0, 0, 3, 1)], first, second)
        self.check([(0, 0, 1, 1), (2, 0, 3, 1)], film_of(layer("a")), film_of(layer("a", box=(1, 0, 2, 1))))

    def test_the_order_of_layers(self):
        self.check([(1, 0, 3, 1)], example(), film_of(HIGH, LOW))
        apart = [layer("a"), layer("b", ("solid", 8), box=(2, 0, 2, 1))]
        self.check([], film_of(*apart), film_of(*apart[::-1]))

    def test_only_the_frame_counts(self):
        early, late = ((0, 5, ("solid", 9), 0, 0),), ((0, 6, ("solid", 9), 0, 0),)
        first, second = film_of(exchanged(LOW, {4: early})), film_of(exchanged(LOW, {4: late}))
        found = [dirt_of(first, second, frame) for frame in range(9)]
        self.assertEqual(found, [[]] * 5 + [[(0, 0, 3, 2)]] + [[]] * 3)

    def test_films_of_unlike_length(self):
        self.check([], example(), Film(4, 2, 5, 10, [LOW, HIGH]), 4)

    def test_the_smallest_and_the_largest_canvas(self):
        for side in (1, 64):
            first, second = Film(side, side, 1, 0, []), Film(side, side, 1, 1, [])
            self.check([(0, 0, side, side)], first, second)

    def test_holes_and_several_pieces(self):
        frame = [
            layer("a", box=(0, 0, 4, 2)), layer("b", ("solid", 1), box=(1, 0, 1, 1)),
            layer("c", ("solid", 1), box=(3, 1, 1, 1)),
        ]
        other = [layer("a", ("solid", 8), box=(0, 0, 4, 2))] + frame[1:]
        self.check([(0, 0, 1, 1), (2, 0, 4, 1), (0, 1, 3, 2)], film_of(*frame), film_of(*other))

    def test_random_films_against_the_words_of_the_point(self):
        source = random.Random(101)
        for _ in range(150):
            first = random_film(source)
            second = changed(source, first)
            before = everything(first), everything(second)
            for frame in range(0, first.frames, 2):
                self.check(dirt(first, second, frame), first, second, frame)
            self.assertEqual((everything(first), everything(second)), before)

    def test_films_that_have_nothing_to_do_with_each_other(self):
        source = random.Random(103)
        for _ in range(60):
            first, second = random_film(source), random_film(source)
            for frame in range(0, first.frames, 3):
                self.check(dirt(first, second, frame), first, second, frame)

    def test_equal_stacks_show_equal_values(self):
        source = random.Random(107)
        for _ in range(100):
            first = random_film(source)
            second = changed(source, first)
            for frame in range(0, first.frames, 3):
                region = dirt_of(first, second, frame)
                rows = zip(picture_of(first, frame), picture_of(second, frame))
                for y, (row, other) in enumerate(rows):
                    for x in range(first.width):
                        if not holds(region, x, y):
                            self.assertEqual(row[x], other[x])


if __name__ == "__main__":
    unittest.main()
