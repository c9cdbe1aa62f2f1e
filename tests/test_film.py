"""Films and how they are checked (points 4.1 to 4.3)."""

import copy
import random
import unittest

from onlythedirt import film as module
from onlythedirt.errors import BadClip, BadFilm, BadLayer, BadMoves, BadPaint, BadPicture, BadWhat, DuplicateLayer
from onlythedirt.film import Film, same_film
from tests.filmwise import HIGH, LOW, everything, example, random_film
from tests.wrong import NO_NUMBERS, exchanged

NAMES = "abcdefghijklmnopqrstuvwxyz"
NO_BOXES = (
    None, True, 5, "", "0011", (), (0, 0, 1), (0, 0, 1, 1, 1), [0, 0, 1, 1], ((0, 0, 1, 1),), (None,) * 4, (0,) * 4,
)
NO_NAMES = (None, True, 5, "", "Low", "lo w", "abcdefghi", "l0w", ("low",), ["low"], (), "a\n")
NO_LAYERS = (None, True, 5, "", "layer", (), LOW[:4], LOW + (0,), list(LOW), [], (LOW,), [LOW], ("low",))
NO_WHATS = (None, True, (), ("paint",), ("paint", 257, "over"), ["invert"], ("shift", 256), ("invert", 0), "invert")


def layers_named(many):
    return [exchanged(LOW, {0: name}) for name in NAMES[:many]]


class FilmCase(unittest.TestCase):
    def check_bad(self, kind, place, layers, numbers=(4, 2, 9, 10)):
        with self.assertRaises(kind) as caught:
            Film(*numbers, layers)
        self.assertEqual(caught.exception.place, place)
        self.assertIs(type(caught.exception.place), type(place))

    def check_bad_layer(self, kind, place, layer, other=LOW):
        """Alone, and as the second of three; without a place, it is the index of the layer."""
        self.check_bad(kind, 0 if place == "index" else place, [layer])
        behind = [exchanged(other, {0: "last"})]
        self.check_bad(kind, 1 if place == "index" else place, [exchanged(other, {0: "first"}), layer] + behind)


class NumbersTest(FilmCase):
    def test_the_names_of_the_bounds(self):
        bounds = (module.SIDE_MOST, module.FRAMES_MOST, module.LAYERS_MOST, module.PLACE_MOST)
        self.assertEqual(bounds, (64, 1000, 16, 1000))

    def test_the_properties(self):
        film = Film(4, 2, 9, 10, [LOW, HIGH])
        self.assertEqual((film.width, film.height, film.frames, film.background), (4, 2, 9, 10))
        self.assertEqual(film.layers, [LOW, HIGH])

    def test_numbers_at_their_bounds(self):
        for numbers in ((1, 1, 1, 0), (64, 64, 1000, 255), (1, 64, 1, 255), (64, 1, 1000, 0), (2, 63, 999, 254)):
            film = Film(*numbers, [])
            self.assertEqual((film.width, film.height, film.frames, film.background), numbers)
            self.assertEqual(film.layers, [])

    def test_wrong_numbers(self):
        outside = ((0, -1, 65), (0, -1, 65), (0, -1, 1001), (-1, 256, -255))
        places = ("size", "size", "frames", "background")
        for item in range(4):
            for wrong in NO_NUMBERS[:6] + outside[item] + (10 ** 40, -10 ** 40):
                self.check_bad(BadFilm, places[item], [], exchanged((4, 2, 9, 10), {item: wrong}))

    def test_the_order_of_the_numbers(self):
        many = layers_named(17)
        self.check_bad(BadFilm, "size", many, (0, 0, 0, 256))
        self.check_bad(BadFilm, "size", many, (1, 0, 0, 256))
        self.check_bad(BadFilm, "frames", many, (1, 1, 0, 256))
        self.check_bad(BadFilm, "background", many, (1, 1, 1, 256))
        self.check_bad(BadFilm, "layers", many, (1, 1, 1, 255))
        self.check_bad(BadFilm, "size", [None], (65, 1, 1, 0))
        self.check_bad(BadFilm, "background", [None], (1, 1, 1, True))

    def test_how_many_layers(self):
        for many in (0, 1, 15, 16):
            self.assertEqual(Film(4, 2, 9, 10, layers_named(many)).layers, layers_named(many))
        for many in (17, 18, 26):
            self.check_bad(BadFilm, "layers", layers_named(many))
            self.check_bad(BadFilm, "layers", [None] * many)


class LayersTest(FilmCase):
    def test_right_layers(self):
        for layer in (
            ("a", (-1000, -1000, 1, 1), (), ("invert",), ()),
            ("abcdefgh", (1000, 1000, 64, 64), (), ("shift", -255), ()),
            ("z", (0, 0, 64, 1), ((0, 1, 2), (1000, 3, 4)), ("paint", 0, "times"), LOW[4]),
            ("z", (0, 0, 1, 64), (), ("invert",), ((0, 9, None, 0, 0),)),
        ):
            self.assertEqual(Film(4, 2, 9, 10, [layer]).layers, [layer])

    def test_random_films(self):
        source = random.Random(71)
        for _ in range(100):
            film = random_film(source)
            again = Film(film.width, film.height, film.frames, film.background, film.layers)
            self.assertEqual(everything(again), everything(film))

    def test_what_is_no_layer(self):
        for layer in NO_LAYERS:
            self.check_bad_layer(BadLayer, "index", layer)

    def test_wrong_names(self):
        for name in NO_NAMES:
            self.check_bad_layer(BadLayer, "index", exchanged(LOW, {0: name}))

    def test_wrong_boxes(self):
        for box in NO_BOXES:
            self.check_bad_layer(BadLayer, "index", exchanged(LOW, {1: box}))

    def test_the_numbers_of_boxes(self):
        for item in (0, 1):
            for place in (-1000, -999, 0, 999, 1000):
                box = exchanged((5, 5, 5, 5), {item: place})
                self.assertEqual(Film(4, 2, 9, 10, [exchanged(LOW, {1: box})]).layers[0][1], box)
            for wrong in NO_NUMBERS + (-1001, 1001, 10 ** 40, -10 ** 40):
                self.check_bad_layer(BadLayer, "index", exchanged(LOW, {1: exchanged((5, 5, 5, 5), {item: wrong})}))
        for item in (2, 3):
            for side in (1, 2, 63, 64):
                box = exchanged((5, 5, 5, 5), {item: side})
                self.assertEqual(Film(4, 2, 9, 10, [exchanged(LOW, {1: box})]).layers[0][1], box)
            for wrong in NO_NUMBERS + (0, -1, 65, 10 ** 40, -10 ** 40):
                self.check_bad_layer(BadLayer, "index", exchanged(LOW, {1: exchanged((5, 5, 5, 5), {item: wrong})}))

    def test_wrong_moves(self):
        for moves, place in (
            (None, None), ([], None), (((0, 0, 0),) * 17, None), ((None,), 0), (((0, 0, 0), (0, 1, 1)), 1),
            (((0, 0, 0), (1, 0, 1001)), 1), (((1001, 0, 0),), 0), (((True, 0, 0),), 0),
        ):
            self.check_bad_layer(BadMoves, place, exchanged(LOW, {2: moves}))

    def test_wrong_whats(self):
        for what in NO_WHATS:
            self.check_bad_layer(BadWhat, what, exchanged(LOW, {3: what}))

    def test_wrong_clips(self):
        solid = ("solid", 9)
        for clips, place in (
            (None, None), ([], None), ((None,), 0), (((0, 9, solid, 0, 0), (8, 1, solid, 0, 0)), 1),
            (((0, 1, solid, 0, 0),) * 65, None), (((0, 9, solid, 5, 5),), 0), (((10001, 9, solid, 0, 0),), 0),
        ):
            self.check_bad_layer(BadClip, place, exchanged(LOW, {4: clips}))
        for paint in (None, ("solid", 256), ("steps", 0, 1, 13), True):
            self.check_bad_layer(BadPaint, paint, exchanged(LOW, {4: ((0, 9, paint, 0, 0),)}))
        self.check_bad_layer(BadPicture, 0, exchanged(LOW, {4: ((0, 9, ("picture", (0, 1, (), ())), 0, 0),)}))

    def test_the_clips_of_layers_that_adjust(self):
        for what in (("invert",), ("shift", 5)):
            layer = exchanged(LOW, {3: what, 4: ((0, 9, None, 0, 0),)})
            self.assertEqual(Film(4, 2, 9, 10, [layer]).layers, [layer])
            for paint, fades in ((("solid", 9), (0, 0)), (None, (1, 0)), (None, (0, 1)), (("solid", 256), (0, 0))):
                one = (1, 9, paint) + fades
                self.check_bad_layer(BadClip, 1, exchanged(layer, {4: ((0, 1, None, 0, 0), one)}))
        for mode in ("over", "add", "times"):
            layer = exchanged(LOW, {3: ("paint", 9, mode), 4: ((0, 9, None, 0, 0),)})
            self.check_bad_layer(BadPaint, None, layer)

    def test_names_that_stand_twice(self):
        self.check_bad(DuplicateLayer, "low", [LOW, LOW])
        self.check_bad(DuplicateLayer, "low", [LOW, HIGH, exchanged(HIGH, {0: "low"})])
        self.check_bad(DuplicateLayer, "high", [LOW, HIGH, HIGH, LOW])
        self.check_bad(DuplicateLayer, "a", layers_named(15) + layers_named(1))

    def test_the_order_within_a_layer(self):
        kinds = ((BadLayer, 1), (BadLayer, 1), (BadMoves, None), (BadWhat, None), (BadClip, None))
        for first, (kind, place) in enumerate(kinds):
            items = {item: None for item in range(first, 5)}
            self.check_bad(kind, place, [HIGH, exchanged(LOW, items)])
            # The name stands twice, which is looked at behind all else.
            if first > 0:
                self.check_bad(kind, place, [LOW, exchanged(LOW, items)])

    def test_the_order_from_layer_to_layer(self):
        self.check_bad(BadClip, None, [exchanged(LOW, {4: None}), None])
        self.check_bad(BadMoves, None, [LOW, exchanged(HIGH, {2: None}), LOW, None])
        self.check_bad(DuplicateLayer, "low", [LOW, LOW, None])
        self.check_bad(BadLayer, 1, [LOW, None, LOW])
        self.check_bad(BadWhat, (), [exchanged(LOW, {3: ()}), exchanged(LOW, {2: None})])
        self.check_bad(BadLayer, 2, [LOW, HIGH, exchanged(LOW, {1: None})])

    def test_the_last_of_sixteen(self):
        self.check_bad(BadLayer, 15, layers_named(15) + [None])


class KeptTest(unittest.TestCase):
    def test_the_list_that_was_passed_is_not_kept(self):
        layers = [LOW, HIGH]
        film = Film(4, 2, 9, 10, layers)
        layers.reverse()
        layers.append(None)
        self.assertEqual(film.layers, [LOW, HIGH])

    def test_the_list_that_was_passed_is_as_before(self):
        layers = [LOW, HIGH]
        before = copy.deepcopy(layers)
        Film(4, 2, 9, 10, layers)
        self.assertEqual(layers, before)

    def test_layers_are_a_new_list_each_time(self):
        film = example()
        found = film.layers
        self.assertIs(type(found), list)
        self.assertIsNot(film.layers, found)
        found.clear()
        self.assertEqual(film.layers, [LOW, HIGH])


class SameTest(unittest.TestCase):
    def test_equal_films(self):
        self.assertIs(same_film(example(), example()), True)
        self.assertIs(same_film(Film(1, 1, 1, 0, []), Film(1, 1, 1, 0, [])), True)
        self.assertIs(same_film(*[example()] * 2), True)

    def test_one_number_differs(self):
        for other in ((5, 2, 9, 10), (4, 3, 9, 10), (4, 2, 8, 10), (4, 2, 9, 11), (2, 4, 9, 10), (4, 2, 10, 9)):
            self.assertIs(same_film(example(), Film(*other, [LOW, HIGH])), False)
            self.assertIs(same_film(Film(*other, [LOW, HIGH]), example()), False)

    def test_layers_differ(self):
        for layers in ([], [LOW], [HIGH], [HIGH, LOW], [LOW, HIGH, exchanged(LOW, {0: "a"})]):
            self.assertIs(same_film(example(), Film(4, 2, 9, 10, layers)), False)
            self.assertIs(same_film(Film(4, 2, 9, 10, layers), example()), False)

    def test_one_item_of_a_layer_differs(self):
        for items in (
            {0: "lower"}, {1: (0, 0, 3, 1)}, {2: ((0, 0, 0),)}, {3: ("paint", 255, "over")}, {3: ("paint", 256, "add")},
            {4: ()}, {4: ((0, 9, ("solid", 51), 0, 0),)}, {4: ((0, 8, ("solid", 50), 0, 0),)},
            {4: ((0, 9, ("solid", 50), 0, 1),)}, {4: ((0, 4, ("solid", 50), 0, 0), (4, 5, ("solid", 50), 0, 0))},
        ):
            self.assertIs(same_film(example(), Film(4, 2, 9, 10, [exchanged(LOW, items), HIGH])), False)

    def test_random_films(self):
        source = random.Random(73)
        films = [random_film(source) for _ in range(30)] + [example()] * 2
        for first in films:
            for second in films:
                self.assertIs(same_film(first, second), everything(first) == everything(second))


if __name__ == "__main__":
    unittest.main()
