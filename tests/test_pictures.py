"""Pictures (points 2.1 to 2.3)."""

import copy
import random
import unittest

from onlythedirt.errors import BadPicture
from onlythedirt.pictures import (
    check_picture, filled, is_number, mirrored, part_of, point_in, turned,
)

FLAG = (3, 2, (1, 2, 3, 4, 5, 6), (10, 20, 30, 40, 50, 256))
WRONG_NUMBERS = (True, False, None, "", "1", (), (1,), [], [1])


def random_picture(source):
    width, height = source.randrange(1, 13), source.randrange(1, 13)
    values = tuple(source.randrange(256) for _ in range(width * height))
    covers = tuple(source.randrange(257) for _ in range(width * height))
    return (width, height, values, covers)


def pictures():
    source = random.Random(3)
    return [FLAG, filled(1, 1, 9, 8), filled(12, 12, 255, 256)] + [random_picture(source) for _ in range(60)]


def rows(picture):
    """The points of a picture as a list of rows, read with no code of the program."""
    width, height, values, covers = picture
    points = list(zip(values, covers))
    return [points[y * width:(y + 1) * width] for y in range(height)]


class NumberTest(unittest.TestCase):
    def test_at_the_bounds(self):
        for least, most in ((0, 255), (1, 12), (-255, 255), (5, 5), (-10 ** 40, 10 ** 40)):
            self.assertIs(is_number(least, least, most), True)
            self.assertIs(is_number(most, least, most), True)
            self.assertIs(is_number((least + most) // 2, least, most), True)
            self.assertIs(is_number(least - 1, least, most), False)
            self.assertIs(is_number(most + 1, least, most), False)

    def test_true_and_false_are_no_numbers(self):
        for value in (True, False):
            self.assertIs(is_number(value, 0, 1), False)
            self.assertIs(is_number(value, -5, 5), False)

    def test_other_values(self):
        for value in (None, "", "1", (), (1,), [], [1]):
            self.assertIs(is_number(value, -5, 5), False)


class CheckTest(unittest.TestCase):
    def check_bad(self, picture, place):
        with self.assertRaises(BadPicture) as caught:
            check_picture(picture)
        self.assertEqual(caught.exception.place, place, picture)

    def exchanged(self, items):
        """FLAG with some of its items exchanged."""
        picture = list(FLAG)
        for place, item in items.items():
            picture[place] = item
        return tuple(picture)

    def wrong_numbers(self, many, most):
        """What is wrong as the values or the covers of a picture."""
        wrong = [
            None, True, "", "abcdef", 0, list(range(many)), (), (0,) * (many - 1), (0,) * (many + 1), (0,) * many * 2,
            ((0,) * many,),
        ]
        for place in range(many):
            for item in WRONG_NUMBERS + (-1, most + 1, 10 ** 40):
                wrong.append((0,) * place + (item,) + (0,) * (many - place - 1))
        return wrong

    def test_right_pictures(self):
        for picture in pictures():
            before = copy.deepcopy(picture)
            self.assertIsNone(check_picture(picture))
            self.assertEqual(picture, before)

    def test_sizes_at_their_bounds(self):
        for width in (1, 2, 11, 12):
            for height in (1, 2, 11, 12):
                for value, cover in ((0, 0), (255, 256), (255, 0), (0, 256)):
                    many = width * height
                    self.assertIsNone(check_picture((width, height, (value,) * many, (cover,) * many)))

    def test_no_tuple_of_four(self):
        for value in (
            None, True, False, 4, "", "abcd", (), (1,), (1, 1, (0,)), (1, 1, (0,), (0,), 0), [1, 1, (0,), (0,)],
            [], ((1, 1, (0,), (0,)),), (1, 1, (0,), (0,), None), (1, 1),
        ):
            self.check_bad(value, None)

    def test_wrong_sizes(self):
        for place in (0, 1):
            for item in WRONG_NUMBERS + (0, -1, 13, 10 ** 40):
                self.check_bad(self.exchanged({place: item}), place)

    def test_sizes_with_their_values_that_are_not_allowed(self):
        for size in (0, 13):
            self.check_bad((size, 1, (0,) * size, (0,) * size), 0)
            self.check_bad((1, size, (0,) * size, (0,) * size), 1)
        self.check_bad((True, 1, (0,), (0,)), 0)
        self.check_bad((1, True, (0,), (0,)), 1)
        self.check_bad((-1, -1, (0,), (0,)), 0)

    def test_wrong_values(self):
        for values in self.wrong_numbers(6, 255):
            self.check_bad(self.exchanged({2: values}), 2)

    def test_wrong_covers(self):
        for covers in self.wrong_numbers(6, 256):
            self.check_bad(self.exchanged({3: covers}), 3)

    def test_values_and_covers_at_their_bounds(self):
        self.assertIsNone(check_picture((1, 1, (255,), (256,))))
        self.check_bad((1, 1, (256,), (256,)), 2)
        self.check_bad((1, 1, (255,), (257,)), 3)

    def test_as_many_as_another_size_says(self):
        self.check_bad((2, 2, FLAG[2], FLAG[3]), 2)
        self.check_bad((3, 3, FLAG[2], FLAG[3]), 2)
        self.check_bad((3, 2, FLAG[2], FLAG[3][:5]), 3)

    def test_the_first_of_two_wrong_items_counts(self):
        wrong = ((0, 13, None), (0, "3", True), ((256,) * 6, list(FLAG[2])), ((257,) * 6, ()))
        for first in range(4):
            for second in range(first + 1, 4):
                for one in wrong[first]:
                    for other in wrong[second]:
                        self.check_bad(self.exchanged({first: one, second: other}), first)


class PointTest(unittest.TestCase):
    def test_inside(self):
        for picture in pictures():
            for y, row in enumerate(rows(picture)):
                for x, point in enumerate(row):
                    self.assertEqual(point_in(picture, x, y), point)

    def test_outside(self):
        for x, y in (
            (-1, 0), (3, 0), (0, -1), (0, 2), (-1, -1), (3, 2), (-1, 2), (3, -1), (2, 2), (-3, 1), (5, 0), (0, 10 ** 40),
            (-10 ** 40, 1), (1, -2),
        ):
            self.assertEqual(point_in(FLAG, x, y), (0, 0), (x, y))

    def test_it_is_a_tuple(self):
        for point in (point_in(FLAG, 1, 1), point_in(FLAG, -1, 1)):
            self.assertIs(type(point), tuple)


class MadeTest(unittest.TestCase):
    def check_made(self, made, expected):
        self.assertEqual(rows(made), expected)
        self.assertEqual(made[:2], (len(expected[0]), len(expected)))
        self.assertIsNone(check_picture(made))

    def test_filled(self):
        self.assertEqual(filled(3, 2, 7, 256), (3, 2, (7,) * 6, (256,) * 6))
        for width in (1, 5, 12):
            for height in (1, 4, 12):
                self.check_made(filled(width, height, 255, 0), [[(255, 0)] * width for _ in range(height)])

    def test_mirrored(self):
        self.assertEqual(mirrored(FLAG), (3, 2, (3, 2, 1, 6, 5, 4), (30, 20, 10, 256, 50, 40)))
        for picture in pictures():
            before = copy.deepcopy(picture)
            self.check_made(mirrored(picture), [row[::-1] for row in rows(picture)])
            self.assertEqual(mirrored(mirrored(picture)), picture)
            self.assertEqual(picture, before)

    def test_turned(self):
        self.assertEqual(turned(FLAG), (2, 3, (4, 1, 5, 2, 6, 3), (40, 10, 50, 20, 256, 30)))
        for picture in pictures():
            before = copy.deepcopy(picture)
            self.check_made(turned(picture), [list(column[::-1]) for column in zip(*rows(picture))])
            self.assertEqual(turned(turned(turned(turned(picture)))), picture)
            self.assertEqual(picture, before)

    def test_turned_row_and_column(self):
        row = (3, 1, (1, 2, 3), (4, 5, 6))
        self.assertEqual(turned(row), (1, 3, (1, 2, 3), (4, 5, 6)))
        self.assertEqual(turned(turned(row)), (3, 1, (3, 2, 1), (6, 5, 4)))

    def part(self, picture, left, top, width, height):
        points = {(x, y): point for y, row in enumerate(rows(picture)) for x, point in enumerate(row)}
        return [[points.get((x, y), (0, 0)) for x in range(left, left + width)] for y in range(top, top + height)]

    def test_part_of(self):
        self.assertEqual(part_of(FLAG, 1, 0, 2, 1), (2, 1, (2, 3), (20, 30)))
        self.assertEqual(part_of(FLAG, 2, 1, 2, 2), (2, 2, (6, 0, 0, 0), (256, 0, 0, 0)))
        self.assertEqual(part_of(FLAG, -1, -1, 2, 2), (2, 2, (0, 0, 0, 1), (0, 0, 0, 10)))
        for left in range(-4, 5):
            for top in range(-3, 4):
                for width, height in ((1, 1), (2, 3), (3, 2), (5, 4)):
                    made = part_of(FLAG, left, top, width, height)
                    self.check_made(made, self.part(FLAG, left, top, width, height))

    def test_part_of_random_pictures(self):
        source = random.Random(17)
        for picture in pictures():
            before = copy.deepcopy(picture)
            self.assertEqual(part_of(picture, 0, 0, picture[0], picture[1]), picture)
            left, top = source.randrange(-6, 13), source.randrange(-6, 13)
            width, height = source.randrange(1, 13), source.randrange(1, 13)
            self.check_made(part_of(picture, left, top, width, height), self.part(picture, left, top, width, height))
            self.assertEqual(picture, before)

    def test_part_far_away(self):
        self.assertEqual(part_of(FLAG, 10 ** 40, 0, 2, 1), filled(2, 1, 0, 0))
        self.assertEqual(part_of(FLAG, 0, -10 ** 40, 1, 2), filled(1, 2, 0, 0))


if __name__ == "__main__":
    unittest.main()
