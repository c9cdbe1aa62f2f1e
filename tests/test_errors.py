import unittest

from onlythedirt import errors
from onlythedirt.errors import FilmError

WORDS = (
    "BadLine", "BadFilm", "BadLayer", "DuplicateLayer", "UnknownLayer", "BadFrame", "BadClip", "BadCut", "BadEdit",
    "NothingToUndo", "NothingToRedo", "BadPaint", "BadPicture", "BadWhat", "BadMoves", "BadJoin", "BadPlace",
    "BadRectangle",
)
PLACES = (0, 7, -3, "size", None, ("solid", 256), ["a"], True, 10 ** 6000)


class KindTest(unittest.TestCase):
    def test_there_are_eighteen_kinds(self):
        kinds = [
            name for name, kind in vars(errors).items()
            if isinstance(kind, type) and issubclass(kind, FilmError) and kind is not FilmError
        ]
        self.assertEqual(sorted(kinds), sorted(WORDS))

    def test_each_kind_has_its_word_and_no_place(self):
        for word in WORDS:
            with self.subTest(word=word):
                error = getattr(errors, word)()
                self.assertEqual(error.word, word)
                self.assertIsNone(error.place)

    def test_each_kind_keeps_its_place(self):
        for word in WORDS:
            for number, place in enumerate(PLACES):
                with self.subTest(word=word, number=number):
                    kind = getattr(errors, word)
                    for error in (kind(place), kind(place=place)):
                        self.assertEqual(error.word, word)
                        self.assertIs(error.place, place)

    def test_each_kind_stands_directly_under_the_base_class(self):
        for word in WORDS:
            with self.subTest(word=word):
                self.assertEqual(getattr(errors, word).__bases__, (FilmError,))

    def test_each_kind_is_none_of_the_others(self):
        for word in WORDS:
            error = getattr(errors, word)(1)
            self.assertIsInstance(error, FilmError)
            self.assertIsInstance(error, ValueError)
            for other in WORDS:
                self.assertEqual(isinstance(error, getattr(errors, other)), other == word)

    def test_each_kind_can_be_raised_and_written(self):
        for word in WORDS:
            with self.subTest(word=word):
                with self.assertRaises(FilmError) as caught:
                    raise getattr(errors, word)(10 ** 6000)
                self.assertIsInstance(str(caught.exception), str)


class BaseTest(unittest.TestCase):
    def test_word_and_place(self):
        error = FilmError("Odd", 4)
        self.assertEqual((error.word, error.place), ("Odd", 4))
        error = FilmError(place="here", word="Odd")
        self.assertEqual((error.word, error.place), ("Odd", "here"))

    def test_no_place(self):
        self.assertIsNone(FilmError("Odd").place)

    def test_it_is_a_value_error(self):
        self.assertEqual(FilmError.__bases__, (ValueError,))


if __name__ == "__main__":
    unittest.main()
