"""Names and paints (points 2.1 and 2.4 to 2.6)."""

import copy
import random
import string
import unittest

from onlythedirt.errors import BadPaint, BadPicture
from onlythedirt.paints import check_paint, is_full, is_name, paint_at
from onlythedirt.pictures import filled
from tests.wrong import NO_NUMBERS, exchanged

FLAG = (3, 2, (1, 2, 3, 4, 5, 6), (10, 20, 30, 40, 50, 256))
RIGHT = (
    ("solid", 0), ("solid", 7), ("solid", 255), ("picture", FLAG), ("picture", filled(12, 12, 255, 256)),
    ("steps", 0, 255, 1), ("steps", 255, 0, 12), ("steps", 9, 9, 5), ("steps", 1, 0, 2),
)
NO_PICTURES = (None, True, 0, "", (), [], list(FLAG), (3, 2, FLAG[2]), FLAG + (0,), ("solid", 7))


class NameTest(unittest.TestCase):
    def test_names(self):
        for name in ("a", "z", "low", "abcdefgh", "ijklmnop", "qrstuvwx", "yz", "aaaaaaaa"):
            self.assertIs(is_name(name), True, name)

    def test_every_letter_is_allowed_at_every_place(self):
        for letter in string.ascii_lowercase:
            for place in range(8):
                self.assertIs(is_name("a" * place + letter + "a" * (7 - place)), True)

    def test_no_letter_and_too_many_letters(self):
        for name in ("", "abcdefghi", "aaaaaaaaa", "a" * 16, "a" * 1000):
            self.assertIs(is_name(name), False, name)

    def test_other_signs_at_every_place(self):
        signs = string.ascii_uppercase + string.digits + string.punctuation + string.whitespace
        for sign in signs + "\x00\u00e9\u00df\u00b5\u03b1\u0430\uff41\u00aa\u0131\U0001d41a\u0301":
            for place in range(8):
                self.assertIs(is_name("a" * place + sign + "a" * (7 - place)), False, (sign, place))
            self.assertIs(is_name(sign), False, sign)

    def test_what_is_no_string(self):
        for value in (None, True, False, 0, 1, (), ("a",), [], ["a"], ("a", "b"), ["l", "o", "w"], b"low"):
            self.assertIs(is_name(value), False, value)


class CheckTest(unittest.TestCase):
    def check_bad(self, paint):
        with self.assertRaises(BadPaint) as caught:
            check_paint(paint)
        self.assertIs(caught.exception.place, paint)

    def check_bad_picture(self, picture, place):
        with self.assertRaises(BadPicture) as caught:
            check_paint(("picture", picture))
        self.assertEqual(caught.exception.place, place, picture)

    def test_right_paints(self):
        for paint in RIGHT:
            before = copy.deepcopy(paint)
            self.assertIsNone(check_paint(paint))
            self.assertEqual(paint, before)

    def test_numbers_at_their_bounds(self):
        for value in (0, 1, 254, 255):
            for paint in (("solid", value), ("steps", value, 3, 2), ("steps", 3, value, 2)):
                self.assertIsNone(check_paint(paint))
        for size in range(1, 13):
            self.assertIsNone(check_paint(("steps", 3, 4, size)))

    def test_wrong_values(self):
        for value in NO_NUMBERS + (-1, 256, 10 ** 40, -10 ** 40):
            for paint in (("solid", value), ("steps", value, 3, 2), ("steps", 3, value, 2)):
                self.check_bad(paint)

    def test_wrong_sizes(self):
        for size in NO_NUMBERS + (0, -1, 13, 10 ** 40):
            self.check_bad(("steps", 3, 4, size))

    def test_one_wrong_item_is_enough(self):
        for items in ({1: 256, 2: 256}, {1: -1, 3: 0}, {2: None, 3: 13}, {1: True, 2: False, 3: True}):
            self.check_bad(exchanged(("steps", 3, 4, 2), items))

    def test_wrong_words(self):
        words = (
            "", "Solid", "solid ", "solids", "none", "picture\n", "STEPS", "paint", "over", None, True, False, 0, 1,
            ("solid",), ["steps"], ("picture",), (),
        )
        for paint in RIGHT:
            for word in words:
                self.check_bad((word,) + paint[1:])

    def test_words_of_other_paints(self):
        self.check_bad(("solid", 3, 4, 2))
        self.check_bad(("picture", 3, 4, 2))
        self.check_bad(("steps", 3))
        self.check_bad(("steps", FLAG))
        self.check_bad(("solid", FLAG))

    def test_items_too_many_and_too_few(self):
        for paint in RIGHT:
            for many in range(len(paint)):
                self.check_bad(paint[:many])
            for item in (None, 0, 1, "", (), paint[-1]):
                self.check_bad(paint + (item,))

    def test_what_is_no_tuple(self):
        for paint in RIGHT:
            self.check_bad(list(paint))
            self.check_bad([paint])
            self.check_bad((paint,))
        for value in (None, True, False, 0, 7, "", "solid", "picture", "steps", [], {}):
            self.check_bad(value)

    def test_wrong_pictures(self):
        for picture in NO_PICTURES:
            self.check_bad_picture(picture, None)
        wrong = ((0, 13, True, None, "3"), (0, 13, False, (2,), []), ((), FLAG[3], 0), (None, [], ()))
        for place in range(4):
            for item in wrong[place]:
                self.check_bad_picture(exchanged(FLAG, {place: item}), place)
        self.check_bad_picture(exchanged(FLAG, {1: 13, 3: ()}), 1)

    def test_the_tuple_is_looked_at_before_the_picture(self):
        for picture in NO_PICTURES + (exchanged(FLAG, {0: 13}), exchanged(FLAG, {3: ()})):
            self.check_bad(("picture", picture, 0))
            self.check_bad(["picture", picture])
            self.check_bad(("pictures", picture))


class AtTest(unittest.TestCase):
    def test_solids(self):
        for value in (0, 1, 50, 255):
            for x, y in ((0, 0), (1, 0), (0, 1), (63, 63), (1000, 2000)):
                self.assertEqual(paint_at(("solid", value), x, y), (value, 256))

    def test_no_paint(self):
        for x, y in ((0, 0), (1, 0), (0, 1), (63, 63)):
            self.assertEqual(paint_at(None, x, y), (0, 256))

    def test_steps_of_size_one(self):
        rows = [[paint_at(("steps", 10, 20, 1), x, y)[0] for x in range(5)] for y in range(3)]
        self.assertEqual(rows, [[10, 20, 10, 20, 10], [20, 10, 20, 10, 20], [10, 20, 10, 20, 10]])

    def test_steps_of_size_three(self):
        rows = [[paint_at(("steps", 1, 0, 3), x, y)[0] for x in range(7)] for y in range(7)]
        upper, lower = [1, 1, 1, 0, 0, 0, 1], [0, 0, 0, 1, 1, 1, 0]
        self.assertEqual(rows, [upper] * 3 + [lower] * 3 + [upper])

    def test_steps_of_size_twelve_at_their_borders(self):
        paint = ("steps", 255, 0, 12)
        for x, y, value in (
            (0, 0, 255), (11, 0, 255), (12, 0, 0), (23, 0, 0), (24, 0, 255), (0, 11, 255), (0, 12, 0), (11, 11, 255),
            (12, 11, 0), (11, 12, 0), (12, 12, 255), (23, 23, 255), (24, 23, 0), (23, 24, 0), (63, 63, 255),
            (63, 47, 255), (63, 35, 0),
        ):
            self.assertEqual(paint_at(paint, x, y), (value, 256), (x, y))

    def test_steps_of_every_size(self):
        for size in range(1, 13):
            for y in range(30):
                tile = ([3] * size + [4] * size) * 40
                row = tile[(y // size) * size:][:30]
                self.assertEqual([paint_at(("steps", 3, 4, size), x, y) for x in range(30)], [(v, 256) for v in row])

    def test_pictures(self):
        points = {(0, 0): (1, 10), (1, 0): (2, 20), (2, 0): (3, 30), (0, 1): (4, 40), (1, 1): (5, 50), (2, 1): (6, 256)}
        for y in range(5):
            for x in range(6):
                self.assertEqual(paint_at(("picture", FLAG), x, y), points.get((x, y), (0, 0)), (x, y))

    def test_far_outside_of_a_picture(self):
        for x, y in ((12, 0), (0, 12), (63, 63), (1000, 0)):
            self.assertEqual(paint_at(("picture", filled(12, 12, 9, 256)), x, y), (0, 0))

    def test_it_is_a_tuple_and_nothing_is_modified(self):
        for paint in RIGHT + (None,):
            before = copy.deepcopy(paint)
            for x, y in ((0, 0), (5, 5), (20, 1)):
                self.assertIs(type(paint_at(paint, x, y)), tuple)
            self.assertEqual(paint, before)


class FullTest(unittest.TestCase):
    def test_solids_and_steps(self):
        for paint in (("solid", 0), ("solid", 255), ("steps", 0, 0, 1), ("steps", 3, 4, 12)):
            for width, height in ((1, 1), (12, 12), (13, 13), (64, 64), (1, 64), (64, 1)):
                self.assertIs(is_full(paint, width, height), True)

    def test_no_paint(self):
        for width, height in ((1, 1), (12, 12), (64, 64)):
            self.assertIs(is_full(None, width, height), False)

    def test_sizes_of_pictures(self):
        for across, down in ((1, 1), (3, 2), (2, 3), (12, 12), (12, 1), (1, 12)):
            paint = ("picture", filled(across, down, 9, 256))
            for width in (1, 2, 3, 4, 11, 12, 13, 64):
                for height in (1, 2, 3, 4, 11, 12, 13, 64):
                    self.assertIs(is_full(paint, width, height), width <= across and height <= down)

    def with_one_cover(self, x, y, cover):
        """A picture of 4 times 3 points with the cover 256, but for one point."""
        place = y * 4 + x
        return (4, 3, (9,) * 12, (256,) * place + (cover,) + (256,) * (11 - place))

    def test_one_lower_cover_inside_and_outside_of_the_size(self):
        for y in range(3):
            for x in range(4):
                for cover in (0, 128, 255):
                    picture = self.with_one_cover(x, y, cover)
                    for width in range(1, 6):
                        for height in range(1, 5):
                            inside = x < width and y < height
                            full = width <= 4 and height <= 3 and not inside
                            self.assertIs(is_full(("picture", picture), width, height), full, (picture, width, height))

    def test_all_covers_lower(self):
        for cover in (0, 255):
            self.assertIs(is_full(("picture", filled(2, 2, 255, cover)), 1, 1), False)

    def test_random_pictures_as_paint_at_tells(self):
        source = random.Random(5)
        for _ in range(200):
            across, down = source.randrange(1, 4), source.randrange(1, 4)
            many = across * down
            covers = tuple(source.choice((256, 256, 256, 255)) for _ in range(many))
            paint = ("picture", (across, down, (0,) * many, covers))
            for width in range(1, 5):
                for height in range(1, 5):
                    full = all(paint_at(paint, x, y)[1] == 256 for x in range(width) for y in range(height))
                    self.assertIs(is_full(paint, width, height), full)


if __name__ == "__main__":
    unittest.main()
