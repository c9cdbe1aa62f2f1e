"""Films written as text, and texts that are read again (points 5.1 and 5.2)."""

import random
import unittest

from onlythedirt.film import Film, same_film
from onlythedirt.written import format_film, parse_film
from tests.filmwise import everything, example, random_film
from tests.someedits import some_film

EXAMPLE = "film 4 2 10 0\nlayer a 1 0 2 2 paint 256 over\nmove 3 1 -1\nclip 0 5 0 2 steps 0 255 1"
ALL_KINDS = """film 64 1 1000 255
layer a -1000 1000 64 1 paint 0 over
move 0 -1000 1000
move 1000 0 -1
clip 0 10 3 7 solid 0
clip 10 1 0 0 steps 0 255 12
clip 10000 10000 0 0 picture 1 1 9 256
layer abcdefgh 0 0 1 1 paint 256 add
clip 5 2 2 0 picture 2 3 1 2 3 4 5 6 0 10 20 30 255 256
layer c 0 0 1 1 paint 5 times
layer d 0 0 1 1 invert
move 7 0 0
clip 0 3 0 0 none
clip 3 4 0 0 none
layer e 0 0 1 1 shift -255
layer f 0 0 1 1 shift 0
clip 1 1 0 0 none"""


class FormatTest(unittest.TestCase):
    def check(self, text, film):
        self.assertEqual(format_film(film), text)
        self.assertIs(same_film(parse_film(text), film), True)

    def test_no_layers(self):
        self.check("film 4 2 10 0", Film(4, 2, 10, 0, []))
        self.check("film 64 1 1000 255", Film(64, 1, 1000, 255, []))

    def test_the_examples(self):
        clips = ((0, 5, ("steps", 0, 255, 1), 0, 2),)
        self.check(EXAMPLE, Film(4, 2, 10, 0, [("a", (1, 0, 2, 2), ((3, 1, -1),), ("paint", 256, "over"), clips)]))
        self.check(
            "film 4 2 9 10\n"
            "layer low 0 0 3 2 paint 256 over\nclip 0 9 0 0 solid 50\n"
            "layer high 1 0 2 1 paint 256 over\nclip 0 9 0 0 solid 200",
            example(),
        )

    def test_layers_of_each_kind(self):
        box = (-7, 8, 9, 10)
        for what, words in (
            (("paint", 0, "over"), "paint 0 over"), (("paint", 256, "add"), "paint 256 add"),
            (("paint", 12, "times"), "paint 12 times"), (("invert",), "invert"), (("shift", 3), "shift 3"),
            (("shift", -255), "shift -255"), (("shift", 0), "shift 0"),
        ):
            self.check("film 4 2 10 0\nlayer a -7 8 9 10 " + words, Film(4, 2, 10, 0, [("a", box, (), what, ())]))

    def test_each_paint(self):
        picture = ("picture", (2, 1, (3, 4), (0, 256)))
        for paint, words in (
            (("solid", 7), "solid 7"), (("steps", 1, 2, 3), "steps 1 2 3"), (picture, "picture 2 1 3 4 0 256"),
        ):
            film = Film(4, 2, 10, 0, [("a", (0, 0, 1, 1), (), ("paint", 1, "over"), ((5, 9, paint, 1, 2),))])
            self.check("film 4 2 10 0\nlayer a 0 0 1 1 paint 1 over\nclip 5 9 1 2 " + words, film)
        film = Film(4, 2, 10, 0, [("a", (0, 0, 1, 1), (), ("invert",), ((5, 9, None, 0, 0),))])
        self.check("film 4 2 10 0\nlayer a 0 0 1 1 invert\nclip 5 9 0 0 none", film)

    def test_the_order_of_the_lines(self):
        moves = ((1, 2, 3), (4, -5, -6))
        film = Film(4, 2, 10, 0, [
            ("b", (0, 0, 1, 1), moves, ("invert",), ((0, 1, None, 0, 0), (1, 2, None, 0, 0))),
            ("a", (0, 0, 1, 1), (), ("shift", 1), ()),
        ])
        self.check("film 4 2 10 0\nlayer b 0 0 1 1 invert\nmove 1 2 3\nmove 4 -5 -6\nclip 0 1 0 0 none\n"
                   "clip 1 2 0 0 none\nlayer a 0 0 1 1 shift 1", film)

    def test_a_film_is_as_before(self):
        film = some_film()
        format_film(film)
        self.assertEqual(everything(film), everything(some_film()))

    def test_random_films(self):
        source = random.Random(151)
        for _ in range(200):
            film = random_film(source)
            text = format_film(film)
            self.assertIs(type(text), str)
            self.assertEqual(everything(parse_film(text)), everything(film))


class ParseTest(unittest.TestCase):
    def test_the_example(self):
        film = parse_film(EXAMPLE)
        self.assertIsInstance(film, Film)
        self.assertEqual(everything(film), (4, 2, 10, 0, [
            ("a", (1, 0, 2, 2), ((3, 1, -1),), ("paint", 256, "over"), ((0, 5, ("steps", 0, 255, 1), 0, 2),)),
        ]))

    def test_all_kinds(self):
        film = parse_film(ALL_KINDS)
        picture = ("picture", (2, 3, (1, 2, 3, 4, 5, 6), (0, 10, 20, 30, 255, 256)))
        self.assertEqual(everything(film), (64, 1, 1000, 255, [
            ("a", (-1000, 1000, 64, 1), ((0, -1000, 1000), (1000, 0, -1)), ("paint", 0, "over"), (
                (0, 10, ("solid", 0), 3, 7), (10, 1, ("steps", 0, 255, 12), 0, 0),
                (10000, 10000, ("picture", (1, 1, (9,), (256,))), 0, 0),
            )),
            ("abcdefgh", (0, 0, 1, 1), (), ("paint", 256, "add"), ((5, 2, picture, 2, 0),)),
            ("c", (0, 0, 1, 1), (), ("paint", 5, "times"), ()),
            ("d", (0, 0, 1, 1), ((7, 0, 0),), ("invert",), ((0, 3, None, 0, 0), (3, 4, None, 0, 0))),
            ("e", (0, 0, 1, 1), (), ("shift", -255), ()),
            ("f", (0, 0, 1, 1), (), ("shift", 0), ((1, 1, None, 0, 0),)),
        ]))
        self.assertEqual(format_film(film), ALL_KINDS)

    def test_sixteen_layers(self):
        lines = ["film 4 2 10 0"] + [f"layer {name} 0 0 1 1 invert" for name in "abcdefghijklmnop"]
        self.assertEqual([layer[0] for layer in parse_film("\n".join(lines)).layers], list("abcdefghijklmnop"))


if __name__ == "__main__":
    unittest.main()
