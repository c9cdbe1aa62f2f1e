"""Edits that lead back (point 3.14)."""

import random
import unittest

from onlythedirt.edits import done, inverse
from onlythedirt.film import Film, same_film
from tests.filmwise import everything, random_film
from tests.someedits import EDITS, ONE, RED, SIX, TILES, TWO, outcome, random_all, random_edit, some_film


def counted(film, name):
    """How many clips the layer has."""
    return [len(layer[4]) for layer in film.layers if layer[0] == name][0]


def back_by_words(film, edit):
    """The edit that leads back as point 3.14 tells it."""
    word = edit[0]
    if word == "all":
        found = []
        for part in edit[1]:
            found.insert(0, back_by_words(film, part))
            film = done(film, part)
        return ("all", tuple(found))
    if word == "size":
        return ("size", film.width, film.height)
    if word in ("background", "frames"):
        return (word, {"background": film.background, "frames": film.frames}[word])
    if word == "layers":
        return ("layers", edit[1], edit[1] + len(edit[3]), tuple(film.layers[edit[1]:edit[2]]))
    behind = done(film, edit)
    all_clips = {layer[0]: ("clips", layer[0], 0, counted(behind, layer[0]), layer[4]) for layer in film.layers}
    if word.startswith("ripple"):
        return ("all", tuple(all_clips.values()))
    name = edit[1]
    layer = [layer for layer in film.layers if layer[0] == name][0]
    if word in ("box", "what"):
        return (word, name, layer[("", "box", "", "what").index(word)])
    if word in ("moves", "clips"):
        items = layer[{"moves": 2, "clips": 4}[word]]
        return (word, name, edit[2], edit[2] + len(edit[4]), items[edit[2]:edit[3]])
    return all_clips[name]


class InverseTest(unittest.TestCase):
    def check(self, edit, back, film=None):
        film = film or some_film()
        before = everything(film)
        found = inverse(film, edit)
        self.assertEqual(found, back)
        self.assertIs(type(found), tuple)
        self.assertIs(same_film(done(done(film, edit), found), film), True)
        self.assertEqual(everything(film), before)

    def test_layers(self):
        self.check(("layers", 1, 2, ()), ("layers", 1, 1, (TWO,)))
        self.check(("layers", 3, 3, ()), ("layers", 3, 3, ()))
        self.check(("layers", 0, 3, (SIX,)), ("layers", 0, 1, (ONE, TWO, SIX)))
        self.check(("layers", 1, 1, (("new", (0, 0, 1, 1), (), ("invert",), ()),)), ("layers", 1, 2, ()))

    def test_clips(self):
        self.check(("clips", "one", 0, 1, ()), ("clips", "one", 0, 0, ONE[4][:1]))
        new = ((8, 1, RED, 0, 0), (9, 1, RED, 0, 0))
        self.check(("clips", "one", 2, 2, new), ("clips", "one", 2, 4, ()))
        self.check(("clips", "one", 1, 3, new), ("clips", "one", 1, 3, ONE[4][1:]))

    def test_moves(self):
        self.check(("moves", "one", 0, 1, ()), ("moves", "one", 0, 0, ((0, 0, 0),)))
        self.check(("moves", "one", 1, 2, ((1, 0, 0), (2, 0, 0))), ("moves", "one", 1, 3, ((4, 2, 1),)))
        self.check(("moves", "two", 0, 0, ((1, 0, 0),)), ("moves", "two", 0, 1, ()))

    def test_box_and_what(self):
        self.check(("box", "one", (5, 5, 5, 5)), ("box", "one", (0, 0, 3, 2)))
        self.check(("what", "six", ("paint", 1, "over")), ("what", "six", ("paint", 128, "add")))
        self.check(("what", "two", ("shift", 1)), ("what", "two", ("invert",)))

    def test_the_numbers_of_the_film(self):
        self.check(("background", 77), ("background", 10))
        self.check(("frames", 1), ("frames", 20))
        self.check(("size", 1, 64), ("size", 8, 6))

    def test_words_of_the_timeline(self):
        for edit, many in (
            (("cut", "one", 2), 4), (("join", "one", 0), 2), (("move", "one", 2, 3), 3), (("trim", "one", 2, 8, 9), 3),
            (("lift", "one", 2, 12), 2), (("lift", "one", 0, 99), 0), (("place", "one", (2, 1, TILES, 0, 0)), 5),
        ):
            self.check(edit, ("clips", "one", 0, many, ONE[4]))
        self.check(("cut", "two", 3), ("clips", "two", 0, 2, TWO[4]))

    def test_ripples(self):
        self.check(("ripple out", 8, 10), ("all", (
            ("clips", "one", 0, 3, ONE[4]), ("clips", "two", 0, 1, TWO[4]), ("clips", "six", 0, 2, SIX[4]),
        )))
        self.check(("ripple in", 4, 10), ("all", (
            ("clips", "one", 0, 3, ONE[4]), ("clips", "two", 0, 2, TWO[4]), ("clips", "six", 0, 2, SIX[4]),
        )))
        for edit in (("ripple out", 0, 1), ("ripple in", 0, 1)):
            self.check(edit, ("all", ()), Film(8, 6, 20, 10, []))

    def test_all(self):
        self.check(("all", ()), ("all", ()))
        self.check(("all", (("background", 1),)), ("all", (("background", 10),)))
        self.check(("all", (("background", 1), ("background", 2))), ("all", (("background", 1), ("background", 10))))
        self.check(
            ("all", (("layers", 0, 3, ()), ("layers", 0, 0, (TWO,)), ("box", "two", (0, 0, 1, 1)), ("cut", "two", 3))),
            ("all", (
                ("clips", "two", 0, 2, TWO[4]), ("box", "two", TWO[1]), ("layers", 0, 1, ()),
                ("layers", 0, 0, (ONE, TWO, SIX)),
            )),
        )

    def test_all_within_all(self):
        self.check(
            ("all", (("frames", 1), ("all", (("size", 1, 1), ("all", ()), ("background", 1))), ("frames", 2))),
            ("all", (("frames", 1), ("all", (("background", 10), ("all", ()), ("size", 8, 6))), ("frames", 20))),
        )
        self.check(("all", (("all", (("frames", 1),)), ("all", (("frames", 2),)))),
                   ("all", (("all", (("frames", 1),)), ("all", (("frames", 20),)))))

    def test_far_within_others(self):
        edit = ("background", 1)
        for _ in range(3000):
            edit = ("all", (edit,))
        film = some_film()
        back = inverse(film, edit)
        self.assertIs(same_film(done(done(film, edit), back), film), True)
        for _ in range(3000):
            self.assertEqual((back[0], len(back), len(back[1])), ("all", 2, 1))
            back = back[1][0]
        self.assertEqual(back, ("background", 10))

    def test_each_word(self):
        for edit in EDITS:
            self.check(edit, back_by_words(some_film(), edit))

    def test_random_edits(self):
        source = random.Random(113)
        for _ in range(150):
            film = random_film(source)
            for _ in range(8):
                edit = random_edit(source, film)
                word, behind = outcome(done, film, edit)
                if word == "result":
                    self.check(edit, back_by_words(film, edit), film)
                    film = behind

    def test_random_alls(self):
        source = random.Random(127)
        for _ in range(150):
            film = random_film(source)
            edit = random_all(source, film, 0)
            if outcome(done, film, edit)[0] == "result":
                self.check(edit, back_by_words(film, edit), film)

    def test_it_raises_what_done_raises(self):
        source = random.Random(131)
        many = 0
        for _ in range(200):
            film = random_film(source)
            for _ in range(8):
                edit = random_edit(source, film)
                raised = outcome(done, film, edit)
                if raised[0] != "result":
                    self.assertEqual(outcome(inverse, film, edit), raised)
                    many += 1
        self.assertGreater(many, 200)


if __name__ == "__main__":
    unittest.main()
