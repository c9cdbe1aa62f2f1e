"""Moves (points 2.9 and 2.10)."""

import copy
import math
import random
import unittest
from fractions import Fraction

from onlythedirt.errors import BadMoves
from onlythedirt.moves import check_moves, offset_at
from tests.wrong import NO_NUMBERS, exchanged

SLOPE = ((2, 0, 0), (5, 10, -10))
BENDS = ((0, 5, -3), (4, 15, -3), (5, -7, 8), (12, -7, -20), (1000, 0, 1000))


def in_a_row(many, first=0):
    """As many points as told, one frame after another."""
    return tuple((first + place, place - 3, 3 - place) for place in range(many))


def random_moves(source):
    frames = sorted(source.sample(range(40), source.randrange(17)))
    return tuple((frame, source.randrange(-30, 31), source.randrange(-1000, 1001)) for frame in frames)


def offset(moves, frame):
    """The offset as point 2.9 tells it, one distance after the other."""
    if not moves:
        return (0, 0)
    last = max((place for place, point in enumerate(moves) if point[0] <= frame), default=None)
    if last is None:
        return (moves[0][1], moves[0][2])
    a = moves[last]
    b = moves[last + 1] if last + 1 < len(moves) else (a[0] + 1, a[1], a[2])
    return tuple(
        a[item] + math.floor(Fraction((b[item] - a[item]) * (frame - a[0]), b[0] - a[0])) for item in (1, 2)
    )


class CheckTest(unittest.TestCase):
    def check_bad(self, moves, place):
        with self.assertRaises(BadMoves) as caught:
            check_moves(moves)
        self.assertEqual(caught.exception.place, place, moves)
        self.assertIsNot(type(caught.exception.place), bool)

    def check_bad_point(self, point):
        """At each index, with right points before it and behind it."""
        for place in (0, 1, 3, 15):
            moves = in_a_row(place) + (point,) + in_a_row(15 - place, place + 1)
            self.check_bad(moves, place)
            self.check_bad(moves[:place + 1], place)

    def test_right_moves(self):
        for moves in ((), ((0, 0, 0),), ((1000, -1000, 1000),), SLOPE, BENDS, in_a_row(16), in_a_row(16, 985)):
            before = copy.deepcopy(moves)
            self.assertIsNone(check_moves(moves))
            self.assertEqual(moves, before)

    def test_how_many(self):
        for many in range(17):
            self.assertIsNone(check_moves(in_a_row(many)))
        for many in (17, 18, 100):
            self.check_bad(in_a_row(many), None)
            self.check_bad((None,) * many, None)

    def test_what_is_no_tuple(self):
        for value in (None, True, False, 0, 3, "", "abc", [], list(SLOPE), [list(point) for point in SLOPE], {}):
            self.check_bad(value, None)

    def test_what_is_no_point(self):
        for point in (
            None, True, False, 0, 3, "", "abc", (), (3,), (3, 0), (3, 0, 0, 0), [], [3, 0, 0], ((3, 0, 0),),
            [3, 0], (3, 0, 0, None), (0,), "300",
        ):
            self.check_bad_point(point)

    def test_a_point_instead_of_the_moves(self):
        self.check_bad((2, 0, 0), 0)

    def test_numbers_at_their_bounds(self):
        for frame in (0, 1, 999, 1000):
            for across in (-1000, -999, 0, 999, 1000):
                for down in (-1000, -999, 0, 999, 1000):
                    self.assertIsNone(check_moves(((frame, across, down),)))

    def test_wrong_frames(self):
        for frame in NO_NUMBERS + (-1, 1001, 10 ** 40, -10 ** 40):
            self.check_bad_point((frame, 0, 0))
        self.check_bad(((1000, 0, 0), (1001, 0, 0)), 1)

    def test_wrong_distances(self):
        for distance in NO_NUMBERS + (-1001, 1001, 10 ** 40, -10 ** 40):
            for place in (0, 1, 15):
                for item in (1, 2):
                    moves = in_a_row(16)
                    self.check_bad(exchanged(moves, {place: exchanged(moves[place], {item: distance})}), place)

    def test_frames_that_do_not_ascend(self):
        self.check_bad(((3, 0, 0), (3, 1, 1)), 1)
        self.check_bad(((3, 0, 0), (2, 1, 1)), 1)
        self.check_bad(((0, 0, 0), (0, 0, 0)), 1)
        self.check_bad(((0, 0, 0), (5, 0, 0), (1, 0, 0)), 2)
        self.check_bad(((0, 0, 0), (5, 0, 0), (5, 0, 0), (9, 0, 0)), 2)
        self.check_bad(((1000, 0, 0), (0, 0, 0)), 1)
        self.check_bad(((1000, 0, 0), (1000, 0, 0)), 1)
        for place in range(1, 16):
            moves = in_a_row(16)
            self.check_bad(exchanged(moves, {place: moves[place - 1]}), place)

    def test_the_first_wrong_item_counts(self):
        self.check_bad(((0, 0, 0), None, (0, 0, 0)), 1)
        self.check_bad(((5, 0, 0), (3, 0, 0), None), 1)
        self.check_bad(((5, 0, 1001), (3, 0, 0)), 0)
        self.check_bad(((True, 0, 0), (0, 0, 0)), 0)


class OffsetTest(unittest.TestCase):
    def test_the_example(self):
        self.assertEqual(
            [offset_at(SLOPE, frame) for frame in range(7)],
            [(0, 0), (0, 0), (0, 0), (3, -4), (6, -7), (10, -10), (10, -10)],
        )

    def test_no_points(self):
        for frame in (0, 1, 999, 10 ** 6):
            self.assertEqual(offset_at((), frame), (0, 0))

    def test_one_point(self):
        for frame in (0, 6, 7, 8, 999, 10 ** 6):
            self.assertEqual(offset_at(((7, -20, 30),), frame), (-20, 30))

    def test_before_the_first_and_behind_the_last(self):
        moves = ((3, -8, 9), (5, 100, 200), (7, 40, -50))
        self.assertEqual([offset_at(moves, frame) for frame in (0, 1, 2, 3)], [(-8, 9)] * 4)
        self.assertEqual([offset_at(moves, frame) for frame in (7, 8, 9, 1000)], [(40, -50)] * 4)

    def test_at_each_point(self):
        for frame, across, down in BENDS:
            self.assertEqual(offset_at(BENDS, frame), (across, down))

    def test_between_two(self):
        self.assertEqual([offset_at(BENDS, frame) for frame in (1, 2, 3)], [(7, -3), (10, -3), (12, -3)])
        self.assertEqual([offset_at(BENDS, frame) for frame in (6, 7, 11)], [(-7, 4), (-7, 0), (-7, -16)])
        self.assertEqual([offset_at(BENDS, frame) for frame in (13, 506, 999)], [(-7, -19), (-4, 490), (-1, 998)])

    def test_rounded_down_also_below_zero(self):
        rising, falling = ((0, -10, 0), (3, 0, 10)), ((0, 0, 10), (3, -10, 0))
        self.assertEqual([offset_at(rising, frame) for frame in range(4)], [(-10, 0), (-7, 3), (-4, 6), (0, 10)])
        self.assertEqual([offset_at(falling, frame) for frame in range(4)], [(0, 10), (-4, 6), (-7, 3), (-10, 0)])
        self.assertEqual(offset_at(((0, 0, 0), (1000, -1, 1)), 1), (-1, 0))
        self.assertEqual(offset_at(((0, 0, 0), (1000, -1, 1)), 999), (-1, 0))

    def test_the_whole_way(self):
        moves = ((0, -1000, 1000), (1000, 1000, -1000))
        for frame in range(1001):
            self.assertEqual(offset_at(moves, frame), (2 * frame - 1000, 1000 - 2 * frame))

    def test_random_moves_against_the_words_of_the_point(self):
        source = random.Random(29)
        for _ in range(300):
            moves = random_moves(source)
            before = copy.deepcopy(moves)
            self.assertIsNone(check_moves(moves))
            for frame in range(45):
                found = offset_at(moves, frame)
                self.assertEqual(found, offset(moves, frame), (moves, frame))
                self.assertIs(type(found), tuple)
            self.assertEqual(moves, before)


if __name__ == "__main__":
    unittest.main()
