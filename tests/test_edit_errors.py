"""What edits are refused, with which error, and in which order (point 3.13)."""

import unittest

from onlythedirt import errors
from onlythedirt.edits import done, inverse
from tests.filmwise import everything
from tests.someedits import EDITS, ONE, RED, SIX, TWO, WITH_A_NAME, some_film
from tests.wrong import NO_NUMBERS, exchanged

NO_WORDS = ("", "Cut", "cuts", "ripple", "ripple  in", "in", "film", None, True, 0, (), ["cut"], ("cut",), b"cut")
NO_LAYERS_NAMES = ("three", "", "One", "one ", None, True, 0, (), ["one"], ("one",))
NO_TUPLES = (None, True, 0, "", "ab", [], [("background", 1)])
# Which items of the edits of the timeline's words are numbers.
NUMBERS = {
    "cut": (2,), "join": (2,), "move": (2, 3), "trim": (2, 3, 4), "lift": (2, 3), "ripple out": (1, 2),
    "ripple in": (1, 2),
}
LISTS = (("layers", 3, ()), ("clips", 3, ("one",)), ("moves", 2, ("one",)))


def of_word(word):
    return [edit for edit in EDITS if edit[0] == word][0]


class ErrorCase(unittest.TestCase):
    def check(self, word, place, edit):
        """That the edit is refused by done and by inverse, also alone within an "all"."""
        for function in (done, inverse):
            for given in (edit, ("all", (edit,)), ("all", (("background", 1), edit))):
                film = some_film()
                with self.assertRaises(errors.FilmError) as caught:
                    function(film, given)
                error = caught.exception
                self.assertEqual((error.word, error.place), (word, place), given)
                self.assertIs(type(error), getattr(errors, word))
                self.assertIs(type(error.place), type(place))
                self.assertEqual(everything(film), everything(some_film()))

    def check_form(self, edit):
        """That it does not have the form of an edit, which is looked at before anything is done."""
        self.check("BadEdit", None, edit)
        for given in (("all", (("background", 256), edit)), ("all", (("all", (("box", "three", ()),)), edit))):
            self.check("BadEdit", None, given)


class FormTest(ErrorCase):
    def test_unknown_words(self):
        for edit in EDITS:
            for word in NO_WORDS:
                self.check_form((word,) + edit[1:])
        for word in NO_WORDS:
            self.check_form((word,))

    def test_an_empty_tuple(self):
        self.check_form(())

    def test_an_item_too_many_and_too_few(self):
        for edit in EDITS:
            for many in range(1, len(edit)):
                self.check_form(edit[:many])
            for item in (None, 0, 1, "", (), "one"):
                self.check_form(edit + (item,))

    def test_a_last_item_that_is_no_tuple(self):
        for word in ("layers", "clips", "moves", "box", "what", "place", "all"):
            edit = of_word(word)
            for wrong in NO_TUPLES + (list(edit[-1]),):
                self.check_form(edit[:-1] + (wrong,))

    def test_numbers_of_the_timeline_that_are_none(self):
        for word, items in NUMBERS.items():
            for item in items:
                for wrong in NO_NUMBERS:
                    self.check_form(exchanged(of_word(word), {item: wrong}))

    def test_true_and_false_where_one_and_zero_would_do(self):
        for edit in (
            ("cut", "one", True), ("join", "one", False), ("move", "one", 2, True), ("move", "one", False, 30),
            ("trim", "one", 2, 10, True), ("trim", "one", False, 0, 3), ("lift", "one", False, 20),
            ("lift", "one", 0, True), ("place", "one", (False, 4, RED, 0, 0)), ("place", "one", (0, True, RED, 0, 0)),
            ("ripple out", False, 20), ("ripple in", 0, True), ("ripple in", False, 1),
        ):
            self.check_form(edit)

    def test_spans_that_are_empty_or_begin_too_early(self):
        for span in ((5, 5), (0, 0), (6, 5), (1, 0), (-1, 5), (-5, -1), (-1, -1), (10 ** 40, 0)):
            self.check_form(("lift", "one") + span)
            self.check_form(("lift", "three") + span)
            self.check_form(("ripple out",) + span)

    def test_the_numbers_of_ripple_in(self):
        for numbers in ((-1, 1), (0, 0), (0, -1), (5, 0), (-10 ** 40, 1)):
            self.check_form(("ripple in",) + numbers)

    def test_clips_to_place(self):
        right = (9, 3, RED, 0, 0)
        for wrong in ((), right[:4], right + (0,), (right,), right[:1], (None,) * 5):
            self.check_form(("place", "one", wrong))
            self.check_form(("place", "three", wrong))
        for start in NO_NUMBERS + (-1, -10 ** 40):
            self.check_form(("place", "one", exchanged(right, {0: start})))
        for length in NO_NUMBERS + (0, -1, -10 ** 40):
            self.check_form(("place", "one", exchanged(right, {1: length})))

    def test_items_within_all(self):
        for wrong in NO_TUPLES + ((), ("all",), ("cut", "one"), [("background", 1)], ["background", 1]):
            self.check_form(("all", (wrong,)))
            self.check_form(("all", (("background", 1), wrong)))
            self.check_form(("all", (wrong, ("background", 1))))
            self.check_form(("all", (("all", (("all", (wrong,)),)),)))

    def test_a_wrong_form_far_within_others(self):
        edit = ("cut", "one", True)
        for _ in range(3000):
            edit = ("all", (edit,))
        with self.assertRaises(errors.BadEdit):
            done(some_film(), edit)


class UnknownLayerTest(ErrorCase):
    def test_names_that_no_layer_has(self):
        for edit in WITH_A_NAME:
            for name in NO_LAYERS_NAMES:
                self.check("UnknownLayer", name, exchanged(edit, {1: name}))

    def test_the_form_comes_first(self):
        self.check_form(("cut", "three", None))
        self.check_form(("clips", "three", 0, 0, []))
        self.check_form(("box", "three", None))

    def test_it_comes_before_the_numbers_of_lists(self):
        for first, last in ((1, 0), (-1, 0), (0, 99), (True, 1), (0, True), (None, None)):
            self.check("UnknownLayer", "three", ("clips", "three", first, last, ()))
            self.check("UnknownLayer", "three", ("moves", "three", first, last, ()))

    def test_it_comes_before_the_errors_of_the_timeline_and_of_the_film(self):
        self.check("UnknownLayer", "three", ("cut", "three", 99))
        self.check("UnknownLayer", "three", ("box", "three", ()))

    def test_the_layers_at_that_time_count(self):
        self.check("UnknownLayer", "one", ("all", (("layers", 0, 1, ()), ("box", "one", ONE[1]))))
        new = exchanged(ONE, {0: "new"})
        self.check("UnknownLayer", "new", ("all", (("box", "new", ONE[1]), ("layers", 0, 0, (new,)))))


class ListsTest(ErrorCase):
    def test_numbers_that_are_none(self):
        for word, _, name in LISTS:
            for wrong in NO_NUMBERS:
                self.check("BadEdit", None, (word,) + name + (wrong, 1, ()))
                self.check("BadEdit", None, (word,) + name + (0, wrong, ()))
                self.check("BadEdit", None, (word,) + name + (wrong, wrong, ()))

    def test_numbers_out_of_the_list(self):
        for word, many, name in LISTS:
            for first, last in (
                (-1, 0), (-1, 1), (1, 0), (many, many - 1), (0, many + 1), (many + 1, many + 1), (many + 1, many),
                (-1, -1), (-many, many), (0, 10 ** 40), (-10 ** 40, 0), (10 ** 40, 10 ** 40),
            ):
                self.check("BadEdit", None, (word,) + name + (first, last, ()))

    def test_numbers_at_the_ends_of_the_list(self):
        for word, many, name in LISTS:
            for first, last in ((0, 0), (many, many), (0, many), (many - 1, many)):
                done(some_film(), (word,) + name + (first, last, ()))

    def test_it_comes_before_the_errors_of_the_film(self):
        self.check("BadEdit", None, ("layers", 0, 4, (None,)))
        self.check("BadEdit", None, ("clips", "one", 0, 4, (None,)))
        self.check("BadEdit", None, ("moves", "one", 2, 1, (None,)))


class TimelineTest(ErrorCase):
    def test_cuts(self):
        for frame in (-1, 0, 4, 8, 9, 15, 99):
            self.check("BadCut", frame, ("cut", "one", frame))
        self.check("BadCut", 2, ("cut", "two", 2))

    def test_joins(self):
        for place in (-1, 1, 2, 3):
            self.check("BadJoin", place, ("join", "one", place))

    def test_moves_and_spans(self):
        for place, frames in ((-1, 0), (3, 0), (0, -1), (0, 1), (2, -3), (1, 3)):
            self.check("BadPlace", place, ("move", "one", place, frames))
        for place, start, length in ((-1, 20, 5), (3, 20, 5), (0, -1, 5), (0, 0, 0), (0, 0, 5), (2, 7, 1), (1, 4, -1)):
            self.check("BadPlace", place, ("trim", "one", place, start, length))
        self.check("BadPlace", 1, ("trim", "six", 1, 8, 2))

    def test_lifts_and_places(self):
        self.check("BadCut", 15, ("lift", "six", 9, 15))
        self.check("BadCut", 16, ("lift", "six", 16, 99))
        self.check("BadCut", 15, ("place", "six", (9, 6, RED, 0, 0)))
        self.check("BadCut", 16, ("place", "six", (16, 1, RED, 0, 0)))

    def test_ripples(self):
        self.check("BadCut", 15, ("ripple out", 8, 15))
        self.check("BadCut", 15, ("ripple in", 15, 1))

    def test_the_lowest_layer_comes_first(self):
        upper = exchanged(SIX, {0: "upper", 4: ((5, 3, RED, 3, 0),)})
        lower = exchanged(SIX, {0: "lower", 4: ((8, 9, RED, 3, 0),)})
        self.check("BadCut", 9, ("all", (("layers", 0, 3, (lower, upper)), ("ripple out", 6, 9))))
        self.check("BadCut", 6, ("all", (("layers", 0, 3, (upper, lower)), ("ripple out", 6, 9))))

    def test_it_comes_before_the_errors_of_the_film(self):
        self.check("BadCut", 16, ("place", "six", (16, 99999, None, None, None)))


class FilmTest(ErrorCase):
    def test_the_numbers_of_the_film(self):
        for wrong in NO_NUMBERS:
            self.check("BadFilm", "background", ("background", wrong))
            self.check("BadFilm", "frames", ("frames", wrong))
            self.check("BadFilm", "size", ("size", wrong, 4))
            self.check("BadFilm", "size", ("size", 4, wrong))
        for word, values in (("background", (-1, 256)), ("frames", (0, 1001))):
            for value in values:
                self.check("BadFilm", word, (word, value))
        for size in ((0, 4), (4, 0), (65, 4), (4, 65)):
            self.check("BadFilm", "size", ("size",) + size)

    def test_layers(self):
        self.check("BadLayer", 1, ("layers", 1, 1, (None,)))
        self.check("BadLayer", 3, ("layers", 3, 3, (exchanged(ONE, {0: "a9"}),)))
        self.check("DuplicateLayer", "one", ("layers", 3, 3, (ONE,)))
        self.check("DuplicateLayer", "two", ("layers", 0, 1, (TWO,)))
        self.check("BadFilm", "layers", ("layers", 0, 0, (None,) * 14))
        self.check("BadFilm", "layers", ("layers", 0, 3, (None,) * 17))

    def test_boxes_and_whats(self):
        for box in ((), (0, 0, 1), (0, 0, 1, 65), (1001, 0, 1, 1), (True, 0, 1, 1)):
            self.check("BadLayer", 1, ("box", "two", box))
        for what in ((), ("paint",), ("shift", 256), ("paint", 257, "over")):
            self.check("BadWhat", what, ("what", "two", what))

    def test_whats_that_do_not_fit_the_clips(self):
        self.check("BadClip", 0, ("what", "one", ("invert",)))
        self.check("BadPaint", None, ("what", "two", ("paint", 256, "over")))

    def test_moves(self):
        self.check("BadMoves", 1, ("moves", "one", 1, 1, ((0, 0, 0),)))
        self.check("BadMoves", 2, ("moves", "one", 2, 2, (None,)))
        self.check("BadMoves", None, ("moves", "one", 2, 2, ((5, 0, 0),) * 15))

    def test_clips(self):
        self.check("BadClip", 1, ("clips", "one", 1, 1, ((3, 1, RED, 0, 0),)))
        self.check("BadClip", 3, ("clips", "one", 3, 3, (None,)))
        self.check("BadClip", None, ("clips", "one", 3, 3, (None,) * 62))
        self.check("BadPaint", ("solid", 256), ("clips", "one", 3, 3, ((20, 1, ("solid", 256), 0, 0),)))
        self.check("BadPicture", 0, ("clips", "one", 3, 3, ((20, 1, ("picture", (0, 1, (), ())), 0, 0),)))

    def test_clips_that_are_placed(self):
        self.check("BadClip", 2, ("place", "one", (8, 2, RED, 2, 1)))
        self.check("BadClip", 2, ("place", "one", (8, 2, RED, None, True)))
        self.check("BadPaint", None, ("place", "one", (8, 2, None, 0, 0)))
        self.check("BadClip", 1, ("place", "two", (8, 2, RED, 0, 0)))
        self.check("BadClip", 3, ("place", "one", (10001, 2, RED, 0, 0)))
        self.check("BadClip", 3, ("place", "one", (20, 10001, RED, 0, 0)))

    def test_what_the_timeline_leads_to(self):
        self.check("BadClip", 2, ("move", "one", 2, 9991))
        self.check("BadClip", 2, ("trim", "one", 2, 10, 10001))
        self.check("BadClip", 2, ("ripple in", 9, 9991))
        full = tuple((2 * place, 2, RED, 0, 0) for place in range(64))
        self.check("BadClip", None, ("all", (("clips", "one", 0, 3, full), ("cut", "one", 3))))

    def test_within_all_each_film_counts(self):
        self.check("BadFilm", "background", ("all", (("background", 256), ("background", 1))))
        self.check("DuplicateLayer", "one", ("all", (("layers", 3, 3, (ONE,)), ("layers", 3, 4, ()))))
        self.check("BadFilm", "frames", ("all", (("all", (("frames", 0),)), ("cut", "one", 0))))
        self.check("BadCut", 0, ("all", (("cut", "one", 0), ("frames", 0))))


if __name__ == "__main__":
    unittest.main()
