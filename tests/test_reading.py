"""Texts that are no films (point 5.3)."""

import unittest

from onlythedirt import errors
from onlythedirt.written import parse_film
from tests.test_written import ALL_KINDS

HEAD = "film 4 2 10 0"
PAINTED = "layer a 0 0 1 1 paint 1 over"
BARE = "layer a 0 0 1 1 invert"
MOVE = "move 3 1 -1"
CLIP = "clip 0 5 0 2 solid 7"
PAINTS = ("none", "solid 7", "steps 1 2 3", "picture 2 1 3 4 0 256")
NO_NUMBERS = (
    "", "-", "+", "+1", "-0", "00", "01", "-01", "007", "--1", "1-", "1.0", "1_0", "0x1", "1x1", "x", "a", "over",
    "\t1", "1\r", "1\t", "None", "True", "\u0661", "\u00b2", "\uff11", "1e1", "1,", "1000000", "-1000000", "0000001",
    "12345678901",
)
# What the words of a line are: numbers are marked by #.
LINES = (
    "film # # # #", "layer a # # # # paint # over", "layer a # # # # paint # add", "layer a # # # # paint # times",
    "layer a # # # # invert", "layer a # # # # shift #", "move # # #", "clip # # # # none", "clip # # # # solid #",
    "clip # # # # steps # # #", "clip # # # # picture 1 1 # #", "clip # # # # picture 1 2 # # # #",
)


def in_a_text(line):
    """A text with this line where it may stand, and the index of the line."""
    word = line.split(" ")[0]
    before = {"film": [], "layer": [HEAD, BARE], "move": [HEAD, BARE, MOVE], "clip": [HEAD, BARE, MOVE]}[word]
    return before + [line, BARE], len(before)


class ReadingCase(unittest.TestCase):
    def check(self, word, place, *lines):
        with self.assertRaises(errors.FilmError) as caught:
            parse_film("\n".join(lines))
        self.assertEqual((caught.exception.word, caught.exception.place), (word, place), lines)
        self.assertIs(type(caught.exception), getattr(errors, word))
        self.assertIs(type(caught.exception.place), type(place))

    def check_line(self, line):
        """That the line does not have its form."""
        lines, place = in_a_text(line)
        self.check("BadLine", place, *lines)
        self.check("BadLine", place, *lines[:place + 1])

    def check_form(self, line):
        """That the line has its form: no line of the text is blamed."""
        lines, _ = in_a_text(line)
        try:
            parse_film("\n".join(lines))
        except errors.BadLine:
            self.fail(line)
        except errors.FilmError:
            pass


class FormTest(ReadingCase):
    def test_the_forms(self):
        for line in LINES:
            for number in ("0", "5", "-3", "999999", "-999999"):
                self.check_form(line.replace("#", number))

    def test_a_word_too_many(self):
        for line in LINES:
            words = line.replace("#", "1").split(" ")
            for place in range(1, len(words) + 1):
                for more in ("1", "a", "none"):
                    self.check_line(" ".join(words[:place] + [more] + words[place:]))

    def test_a_word_too_few(self):
        for line in LINES:
            words = line.replace("#", "1").split(" ")
            for place in range(1, len(words)):
                self.check_line(" ".join(words[:place] + words[place + 1:]))
                self.check_line(" ".join(words[:place]))

    def test_another_word_instead_of_a_number(self):
        for line in LINES:
            words = line.split(" ")
            for place, word in enumerate(words):
                if word == "#":
                    for wrong in NO_NUMBERS:
                        exchanged = words[:place] + [wrong] + words[place + 1:]
                        self.check_line(" ".join(exchanged).replace("#", "1"))

    def test_the_numbers_of_pictures(self):
        for wrong in NO_NUMBERS:
            for size in ((wrong, "1"), ("1", wrong)):
                self.check_line(" ".join(("clip 0 5 0 2 picture",) + size + ("1", "1")))

    def test_another_first_word(self):
        for wrong in ("", "Film", "films", "LAYER", "moves", "0", "-", "none", "paint", "#", "\ufefffilm"):
            self.check("BadLine", 0, wrong + " 4 2 10 0")
            self.check("BadLine", 1, HEAD, wrong + " a 0 0 1 1 invert", BARE)
            self.check("BadLine", 2, HEAD, BARE, wrong + " 3 1 -1", BARE)
            self.check("BadLine", 2, HEAD, PAINTED, wrong + " 0 5 0 2 solid 7", BARE)

    def test_another_word_of_what_a_layer_does(self):
        for what in (
            "over 1 paint", "Paint 1 over", "paint over 1", "paint 1 Over", "paint 1 ", "paint 1 invert", "paint 1 1",
            "invert 1", "INVERT", "", " ", "shift", "shift over", "shift 1 over", "solid 1", "none", "1", "paint 1",
            "paint", "times 1", "over", "move", "invert ", " invert", "shift ", "paint 1 over ",
        ):
            self.check_line("layer a 0 0 1 1 " + what)

    def test_another_word_of_a_paint(self):
        for paint in (
            "", " ", "None", "none 0", "solid", "Solid 1", "solid none", "solid 1 1", "step 1 2 3", "steps 1 2",
            "steps 1 2 3 4", "steps", "paint 1 over", "1", "invert", "pictures 1 1 1 1", "none ", "solid 1 ",
        ):
            self.check_line("clip 0 5 0 2 " + paint)


class NumberTest(ReadingCase):
    def test_six_digits_and_seven(self):
        self.check("BadFilm", "size", "film 999999 2 10 0")
        self.check("BadFilm", "size", "film -999999 2 10 0")
        self.check("BadFilm", "background", "film 4 2 10 -1")
        for number in ("1000000", "-1000000", "9999999", "1" * 5000, "-" + "1" * 5000):
            self.check("BadLine", 0, f"film {number} 2 10 0")
            self.check("BadLine", 0, f"film 4 2 10 {number}")

    def test_zero(self):
        self.assertEqual(parse_film("film 4 2 10 0").background, 0)
        for number in ("-0", "00", "+0", "000000", "-00"):
            self.check("BadLine", 0, "film 4 2 10 " + number)


class SpaceTest(ReadingCase):
    def test_two_spaces_side_by_side(self):
        for line in (HEAD, BARE, MOVE, CLIP) + tuple("clip 0 5 0 2 " + paint for paint in PAINTS):
            for place, sign in enumerate(line):
                if sign == " ":
                    self.check_line(line[:place] + " " + line[place:])

    def test_a_space_at_an_end(self):
        for line in (HEAD, BARE, MOVE, CLIP) + tuple("clip 0 5 0 2 " + paint for paint in PAINTS):
            lines, place = in_a_text(line)
            self.check_line(line + " ")
            self.check("BadLine", place, *(lines[:place] + [" " + line] + lines[place + 1:]))

    def test_empty_lines(self):
        self.check("BadLine", 0, "")
        self.check("BadLine", 0, "", HEAD)
        self.check("BadLine", 0, " ")
        self.check("BadLine", 1, HEAD, "")
        self.check("BadLine", 1, HEAD, "", BARE)
        self.check("BadLine", 2, HEAD, BARE, "")
        self.check("BadLine", 2, HEAD, BARE, "", MOVE)
        self.check("BadLine", 4, HEAD, BARE, MOVE, "clip 0 5 0 0 none", "", "")

    def test_other_ends_of_lines_are_no_ends(self):
        for end in ("\r\n", "\r", "\x0b", "\x0c", "\u2028", "\x85", "\t"):
            self.check("BadLine", 0, HEAD + end + BARE)
            self.check("BadLine", 1, HEAD, BARE + end + MOVE)


class OrderTest(ReadingCase):
    def test_the_first_line(self):
        for line in (BARE, MOVE, CLIP, "clip 0 5 0 0 none", "comment", "film"):
            self.check("BadLine", 0, line)
            self.check("BadLine", 0, line, HEAD)

    def test_film_in_another_line(self):
        self.check("BadLine", 1, HEAD, HEAD)
        self.check("BadLine", 2, HEAD, BARE, HEAD)
        self.check("BadLine", 3, HEAD, BARE, MOVE, HEAD)
        self.check("BadLine", 3, HEAD, PAINTED, CLIP, HEAD, BARE)

    def test_a_move_or_a_clip_before_a_layer(self):
        for line in (MOVE, CLIP):
            self.check("BadLine", 1, HEAD, line)
            self.check("BadLine", 1, HEAD, line, PAINTED)

    def test_a_move_behind_a_clip(self):
        self.check("BadLine", 3, HEAD, PAINTED, CLIP, MOVE)
        self.check("BadLine", 4, HEAD, PAINTED, MOVE, CLIP, "move 4 1 1")
        self.check("BadLine", 5, HEAD, PAINTED, CLIP, "layer b 0 0 1 1 invert", "clip 0 1 0 0 none", MOVE)
        film = parse_film("\n".join((HEAD, PAINTED, CLIP, "layer b 0 0 1 1 invert", MOVE)))
        self.assertEqual([layer[2] for layer in film.layers], [(), ((3, 1, -1),)])

    def test_the_first_such_line(self):
        self.check("BadLine", 1, HEAD, "layer a 0 0 1 1 wrong", MOVE + " 1", "")
        self.check("BadLine", 2, HEAD, BARE, MOVE + " 1", "", HEAD)
        self.check("BadLine", 0, "film 4 2 10", "")
        self.check("BadLine", 2, HEAD, PAINTED, "clip 0 5 0 2 solid", MOVE)

    def test_each_line_of_a_text(self):
        lines = ALL_KINDS.split("\n")
        for place, line in enumerate(lines):
            for wrong in (line + " 1", line + " ", "x" + line, "", line.rpartition(" ")[0]):
                self.check("BadLine", place, *(lines[:place] + [wrong] + lines[place + 1:]))


class PictureTest(ReadingCase):
    def picture(self, *numbers):
        return " ".join(["clip 0 5 0 2 picture"] + [str(number) for number in numbers])

    def test_too_few_and_too_many_numbers(self):
        self.check_form(self.picture(2, 3, *range(12)))
        for many in range(16):
            if many != 12:
                self.check_line(self.picture(2, 3, *range(many)))
        self.check_line(self.picture(2))
        self.check_line(self.picture())

    def test_widths_and_heights_below_zero(self):
        for size in ((-1, 1), (1, -1), (-1, -1), (-2, -3), (-1, 0), (0, -1), (-2, 3)):
            for many in (0, 1, 2, 12):
                self.check_line(self.picture(*size, *[1] * many))

    def test_widths_and_heights_of_zero_have_their_form(self):
        for width, height, place in ((0, 0, 0), (0, 5, 0), (5, 0, 1), (999999, 0, 0)):
            self.check("BadPicture", place, HEAD, PAINTED, self.picture(width, height))
            self.check_line(self.picture(width, height, 1))
            self.check_line(self.picture(width, height, 1, 1))

    def test_sizes_that_are_too_large(self):
        self.check("BadPicture", 0, HEAD, PAINTED, self.picture(13, 1, *[1] * 26))
        self.check("BadPicture", 1, HEAD, PAINTED, self.picture(1, 13, *[1] * 26))
        self.check_line(self.picture(999999, 999999, 1, 1))


class FilmErrorTest(ReadingCase):
    def test_the_errors_of_the_film(self):
        for word, place, lines in (
            ("BadFilm", "size", ["film 0 2 10 0"]), ("BadFilm", "size", ["film 4 65 10 0"]),
            ("BadFilm", "frames", ["film 4 2 1001 0"]), ("BadFilm", "background", ["film 4 2 10 256"]),
            ("BadLayer", 0, [HEAD, "layer a 1001 0 1 1 invert"]), ("BadLayer", 0, [HEAD, "layer a 0 0 0 1 invert"]),
            ("BadMoves", 1, [HEAD, BARE, MOVE, MOVE]), ("BadMoves", 0, [HEAD, BARE, "move -1 0 0"]),
            ("BadWhat", ("paint", 257, "over"), [HEAD, "layer a 0 0 1 1 paint 257 over"]),
            ("BadWhat", ("shift", -256), [HEAD, "layer a 0 0 1 1 shift -256"]),
            ("BadClip", 0, [HEAD, PAINTED, "clip 0 5 3 3 solid 7"]), ("BadClip", 1, [HEAD, PAINTED, CLIP, CLIP]),
            ("BadClip", 0, [HEAD, BARE, CLIP]), ("BadClip", 0, [HEAD, BARE, "clip 0 5 0 2 none"]),
            ("BadPaint", None, [HEAD, PAINTED, "clip 0 5 0 2 none"]),
            ("BadPaint", ("solid", -1), [HEAD, PAINTED, "clip 0 5 0 2 solid -1"]),
            ("BadPaint", ("steps", 1, 2, 0), [HEAD, PAINTED, "clip 0 5 0 2 steps 1 2 0"]),
            ("BadPicture", 3, [HEAD, PAINTED, "clip 0 5 0 2 picture 1 1 255 257"]),
            ("BadPicture", 2, [HEAD, PAINTED, "clip 0 5 0 2 picture 1 1 256 256"]),
            ("DuplicateLayer", "a", [HEAD, PAINTED, BARE]),
            ("BadFilm", "layers", [HEAD] + [BARE] * 17),
            ("BadClip", None, [HEAD, PAINTED] + [f"clip {at} 1 0 0 solid 1" for at in range(65)]),
        ):
            self.check(word, place, *lines)

    def test_names_that_are_no_names(self):
        for name in ("", "A", "a1", "abcdefghi", "layer1", "-5", "0", "a\tb", "\r", "\u00e9", "*", "a\x0bb"):
            self.check("BadLayer", 0, HEAD, f"layer {name} 0 0 1 1 invert")
            self.check("BadLayer", 1, HEAD, BARE, f"layer {name} 0 0 1 1 invert")
        for name in ("film", "layer", "move", "clip", "invert", "none"):
            self.assertEqual(parse_film(f"{HEAD}\nlayer {name} 0 0 1 1 invert").layers[0][0], name)

    def test_an_empty_name_with_a_word_too_few(self):
        self.check("BadLine", 1, HEAD, "layer  0 0 1 invert")
        self.check("BadLine", 1, HEAD, "layer 0 0 1 1 invert")

    def test_the_form_of_all_lines_comes_first(self):
        self.check("BadLine", 1, "film 0 0 0 256", "wrong")
        self.check("BadLine", 3, HEAD, PAINTED, "clip 0 5 9 9 solid 999", "layer a 0 0 1 1 over")


if __name__ == "__main__":
    unittest.main()
