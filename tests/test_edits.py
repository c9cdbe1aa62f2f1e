"""What edits do (points 3.12 and 3.13)."""

import random
import unittest

from onlythedirt.edits import done
from onlythedirt.film import Film
from onlythedirt.timeline import cut_at, join_at, lifted, moved_by, placed, rippled_in, rippled_out, with_span
from tests.filmwise import everything, random_film
from tests.someedits import EDITS, ONE, RED, SIX, TILES, TWO, outcome, random_edit, some_film
from tests.wrong import exchanged

NEW = ("new", (0, 0, 1, 1), (), ("invert",), ())
NUMBERS = (8, 6, 20, 10)
OF_CLIPS = {
    "cut": cut_at, "join": join_at, "move": moved_by, "trim": with_span, "lift": lifted, "place": placed,
}


def replaced(items, first, last, others):
    return tuple(items[at] for at in range(first)) + others + tuple(items[at] for at in range(last, len(items)))


def behind_by_words(film, edit):
    """Everything of the film behind an edit of which all is right, as point 3.12 tells it."""
    word = edit[0]
    items = {"width": film.width, "height": film.height, "frames": film.frames, "background": film.background}
    layers = film.layers
    if word == "all":
        for part in edit[1]:
            film = Film(*behind_by_words(film, part))
        return everything(film)
    if word == "size":
        items.update(width=edit[1], height=edit[2])
    elif word in items:
        items[word] = edit[1]
    elif word == "layers":
        layers = list(replaced(layers, *edit[1:]))
    elif word.startswith("ripple"):
        ripple = {"ripple in": rippled_in, "ripple out": rippled_out}[word]
        layers = [exchanged(layer, {4: ripple(layer[4], *edit[1:])}) for layer in layers]
    else:
        place = [layer[0] for layer in layers].index(edit[1])
        layers[place] = layer_by_words(layers[place], edit)
    return tuple(items.values()) + (layers,)


def layer_by_words(layer, edit):
    word = edit[0]
    if word in ("box", "what"):
        return exchanged(layer, {("", "box", "", "what").index(word): edit[2]})
    if word == "moves":
        return exchanged(layer, {2: replaced(layer[2], *edit[2:])})
    if word == "clips":
        return exchanged(layer, {4: replaced(layer[4], *edit[2:])})
    return exchanged(layer, {4: OF_CLIPS[word](layer[4], *edit[2:])})


class EditCase(unittest.TestCase):
    def check(self, edit, layers, numbers=NUMBERS):
        film = some_film()
        behind = done(film, edit)
        self.assertIsInstance(behind, Film)
        self.assertEqual(everything(behind), numbers + (layers,))
        self.assertEqual(everything(film), NUMBERS + ([ONE, TWO, SIX],))

    def check_item(self, item, edit, changed):
        """That the edit of the layer `one` changes one item of it, and nothing else."""
        self.check(edit, [exchanged(ONE, {item: changed}), TWO, SIX])

    def check_clips(self, edit, clips):
        self.check_item(4, edit, clips)


class FilmWordsTest(EditCase):
    def test_layers_are_put_in(self):
        self.check(("layers", 0, 0, (NEW,)), [NEW, ONE, TWO, SIX])
        self.check(("layers", 2, 2, (NEW,)), [ONE, TWO, NEW, SIX])
        self.check(("layers", 3, 3, (NEW,)), [ONE, TWO, SIX, NEW])
        more = exchanged(NEW, {0: "more"})
        self.check(("layers", 1, 1, (NEW, more)), [ONE, NEW, more, TWO, SIX])

    def test_layers_are_taken_away(self):
        self.check(("layers", 0, 1, ()), [TWO, SIX])
        self.check(("layers", 1, 3, ()), [ONE])
        self.check(("layers", 0, 3, ()), [])
        self.check(("layers", 2, 2, ()), [ONE, TWO, SIX])

    def test_layers_are_replaced(self):
        self.check(("layers", 1, 2, (NEW,)), [ONE, NEW, SIX])
        self.check(("layers", 0, 3, (SIX, ONE)), [SIX, ONE])
        self.check(("layers", 0, 2, (TWO, ONE)), [TWO, ONE, SIX])
        self.check(("layers", 1, 2, (exchanged(TWO, {0: "name"}),)), [ONE, exchanged(TWO, {0: "name"}), SIX])

    def test_background_frames_and_size(self):
        layers = [ONE, TWO, SIX]
        for value in (0, 10, 255):
            self.check(("background", value), layers, (8, 6, 20, value))
        for number in (1, 19, 1000):
            self.check(("frames", number), layers, (8, 6, number, 10))
        for size in ((1, 1), (64, 64), (6, 8)):
            self.check(("size",) + size, layers, size + (20, 10))


class LayerWordsTest(EditCase):
    def test_moves(self):
        first, second = ONE[2]
        self.check_item(2, ("moves", "one", 0, 0, ()), ONE[2])
        self.check_item(2, ("moves", "one", 0, 2, ()), ())
        self.check_item(2, ("moves", "one", 1, 1, ((2, 7, 7), (3, 8, 8))), (first, (2, 7, 7), (3, 8, 8), second))
        self.check_item(2, ("moves", "one", 2, 2, ((9, 0, 0),)), (first, second, (9, 0, 0)))
        self.check_item(2, ("moves", "one", 0, 1, ((3, -1, -2),)), ((3, -1, -2), second))

    def test_clips(self):
        first, second, third = ONE[4]
        new = (8, 2, ("solid", 1), 0, 2)
        self.check_clips(("clips", "one", 3, 3, ()), ONE[4])
        self.check_clips(("clips", "one", 0, 3, ()), ())
        self.check_clips(("clips", "one", 2, 2, (new,)), (first, second, new, third))
        self.check_clips(("clips", "one", 1, 3, (new, (20, 1, RED, 0, 0))), (first, new, (20, 1, RED, 0, 0)))

    def test_box(self):
        self.check_item(1, ("box", "one", (-1000, 1000, 64, 1)), (-1000, 1000, 64, 1))

    def test_what(self):
        self.check_item(3, ("what", "one", ("paint", 0, "times")), ("paint", 0, "times"))
        self.check(("what", "two", ("shift", -7)), [ONE, exchanged(TWO, {3: ("shift", -7)}), SIX])

    def test_each_layer_by_its_name(self):
        box = (5, 5, 5, 5)
        self.check(("box", "two", box), [ONE, exchanged(TWO, {1: box}), SIX])
        self.check(("box", "six", box), [ONE, TWO, exchanged(SIX, {1: box})])
        self.check(("lift", "six", 0, 8), [ONE, TWO, exchanged(SIX, {4: SIX[4][1:]})])
        self.check(("cut", "two", 3), [ONE, exchanged(TWO, {4: ((2, 1, None, 0, 0), (3, 5, None, 0, 0))}), SIX])


class TimelineWordsTest(EditCase):
    def test_cut_and_join(self):
        first, second, third = ONE[4]
        self.check_clips(("cut", "one", 1), ((0, 1, RED, 1, 0), (1, 3, RED, 0, 0), second, third))
        self.check_clips(("cut", "one", 14), (first, second, (10, 4, TILES, 0, 0), (14, 1, TILES, 0, 0)))
        self.check_clips(("join", "one", 0), ((0, 8, RED, 1, 1), third))

    def test_move_and_trim(self):
        first, second, third = ONE[4]
        self.check_clips(("move", "one", 2, -2), (first, second, (8, 5, TILES, 0, 0)))
        self.check_clips(("move", "one", 0, 30), (second, third, (30, 4, RED, 1, 0)))
        self.check_clips(("move", "one", 0, 0), ONE[4])
        self.check_clips(("trim", "one", 1, 5, 1), (first, (5, 1, RED, 0, 1), third))
        self.check_clips(("trim", "one", 0, 20, 10), (second, third, (20, 10, RED, 1, 0)))

    def test_lift_and_place(self):
        first, second, third = ONE[4]
        new = (2, 9, ("solid", 1), 4, 5)
        halves = (0, 2, RED, 1, 0), (11, 4, TILES, 0, 0)
        self.check_clips(("lift", "one", 2, 11), halves)
        self.check_clips(("place", "one", new), (halves[0], new, halves[1]))
        self.check_clips(("place", "one", (8, 2, TILES, 0, 0)), (first, second, (8, 2, TILES, 0, 0), third))
        self.check_clips(("lift", "one", 8, 10), ONE[4])
        self.check_clips(("lift", "one", 0, 1), ((1, 3, RED, 0, 0), second, third))
        self.check_clips(("place", "one", (0, 1, TILES, 0, 1)), ((0, 1, TILES, 0, 1), (1, 3, RED, 0, 0), second, third))

    def test_ripple_out(self):
        one = ((0, 4, RED, 1, 0), (4, 4, RED, 0, 1), (9, 4, TILES, 0, 0))
        self.check(("ripple out", 9, 11), [
            exchanged(ONE, {4: one}), TWO, exchanged(SIX, {4: (SIX[4][0], (8, 1, RED, 0, 0), (9, 6, RED, 0, 3))}),
        ])
        self.check(("ripple out", 30, 40), [ONE, TWO, SIX])

    def test_ripple_in(self):
        one = ((0, 4, RED, 1, 0), (14, 4, RED, 0, 1), (20, 5, TILES, 0, 0))
        two = ((2, 2, None, 0, 0), (14, 4, None, 0, 0))
        six = ((15, 3, TILES, 1, 1), (18, 9, RED, 0, 3))
        self.check(("ripple in", 4, 10), [exchanged(layer, {4: clips}) for layer, clips in (
            (ONE, one), (TWO, two), (SIX, six),
        )])
        self.check(("ripple in", 30, 40), [ONE, TWO, SIX])

    def test_ripples_of_a_film_without_layers(self):
        for edit in (("ripple out", 0, 1), ("ripple in", 0, 1)):
            self.assertEqual(everything(done(Film(8, 6, 20, 10, []), edit)), NUMBERS + ([],))


class AllTest(EditCase):
    def test_none(self):
        self.check(("all", ()), [ONE, TWO, SIX])

    def test_one_after_another(self):
        box = (5, 5, 5, 5)
        self.check(("all", (("background", 1), ("box", "one", box), ("frames", 3))),
                   [exchanged(ONE, {1: box}), TWO, SIX], (8, 6, 3, 1))
        self.check(("all", (("background", 1), ("background", 2))), [ONE, TWO, SIX], (8, 6, 20, 2))

    def test_each_rests_on_those_before_it(self):
        self.check(("all", (("layers", 0, 0, (NEW,)), ("box", "new", (1, 1, 1, 1)), ("layers", 1, 4, ()))),
                   [exchanged(NEW, {1: (1, 1, 1, 1)})])
        self.check_clips(("all", (("cut", "one", 2), ("cut", "one", 6), ("join", "one", 1))),
                         ((0, 2, RED, 1, 0), (2, 4, RED, 0, 0), (6, 2, RED, 0, 1), ONE[4][2]))
        self.check_clips(("all", (("clips", "one", 0, 3, ()), ("clips", "one", 0, 0, ONE[4][:1]))), ONE[4][:1])

    def test_within_another(self):
        inner = ("all", (("background", 2), ("all", (("frames", 4), ("all", ())))))
        self.check(("all", (("background", 1), inner, ("size", 3, 3))), [ONE, TWO, SIX], (3, 3, 4, 2))

    def test_far_within_others(self):
        edit = ("background", 1)
        for _ in range(3000):
            edit = ("all", (edit,))
        self.check(edit, [ONE, TWO, SIX], (8, 6, 20, 1))


class WordsTest(unittest.TestCase):
    def test_each_word(self):
        for edit in EDITS:
            self.assertEqual(everything(done(some_film(), edit)), behind_by_words(some_film(), edit), edit)

    def test_random_edits_against_the_words_of_the_point(self):
        source = random.Random(109)
        many = 0
        for _ in range(150):
            film = random_film(source)
            for _ in range(10):
                edit = random_edit(source, film)
                before = everything(film)
                word, behind = outcome(done, film, edit)
                self.assertEqual(everything(film), before)
                if word == "result":
                    self.assertEqual(everything(behind), behind_by_words(film, edit))
                    film = behind
                    many += 1
        self.assertGreater(many, 500)


if __name__ == "__main__":
    unittest.main()
