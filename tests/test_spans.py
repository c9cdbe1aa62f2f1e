"""Clips that get another span (point 3.8)."""

import random
import unittest

from onlythedirt.clips import check_clips
from onlythedirt.errors import BadPlace
from onlythedirt.timeline import moved_by, with_span
from tests.test_clips import FLAG, RED, TILES, clip, random_clips, side_by_side

ROW = (clip(2, 4, RED, 1, 2), clip(10, 3, TILES), clip(15, 5, FLAG, 0, 4))


def spanned_by_words(clips, place, start, length):
    """The clips with the other span as point 3.8 tells it, or None."""
    if place not in range(len(clips)) or start < 0 or length < 1:
        return None
    _, _, paint, fade_in, fade_out = clips[place]
    others = [clip for at, clip in enumerate(clips) if at != place]
    taken = {frame for other in others for frame in range(other[0], other[0] + other[1])}
    if fade_in + fade_out > length or taken & set(range(start, start + length)):
        return None
    changed = (start, length, paint, fade_in, fade_out)
    earlier = [other for other in others if other[0] < start]
    return tuple(earlier + [changed] + others[len(earlier):])


class SpanCase(unittest.TestCase):
    def check_bad(self, clips, place, start, length):
        with self.assertRaises(BadPlace) as caught:
            with_span(clips, place, start, length)
        self.assertEqual(caught.exception.place, place)

    def check_bad_move(self, clips, place, frames):
        with self.assertRaises(BadPlace) as caught:
            moved_by(clips, place, frames)
        self.assertEqual(caught.exception.place, place)

    def check(self, clips, place, start, length):
        expected = spanned_by_words(clips, place, start, length)
        if expected is None:
            self.check_bad(clips, place, start, length)
        else:
            found = with_span(clips, place, start, length)
            self.assertEqual(found, expected)
            self.assertIs(type(found), tuple)

    def check_move(self, clips, place, frames):
        span = (clips[place][0] + frames, clips[place][1]) if place in range(len(clips)) else (0, 1)
        expected = spanned_by_words(clips, place, *span)
        if expected is None:
            self.check_bad_move(clips, place, frames)
        else:
            found = moved_by(clips, place, frames)
            self.assertEqual(found, expected)
            self.assertIs(type(found), tuple)
            self.assertIsNone(check_clips(found, False))


class WithSpanTest(SpanCase):
    def test_paint_and_fades_stay(self):
        self.assertEqual(with_span(ROW, 0, 3, 7), (clip(3, 7, RED, 1, 2),) + ROW[1:])
        self.assertEqual(with_span(ROW, 2, 14, 9), ROW[:2] + (clip(14, 9, FLAG, 0, 4),))

    def test_the_same_span(self):
        for place in range(3):
            self.assertEqual(with_span(ROW, place, ROW[place][0], ROW[place][1]), ROW)

    def test_no_such_clip(self):
        for place in (-10 ** 40, -4, -3, -1, 3, 4, 10 ** 40):
            self.check_bad(ROW, place, 30, 5)
        self.check_bad((), 0, 0, 1)
        self.check_bad((), -1, 0, 1)

    def test_starts_below_zero(self):
        self.assertEqual(with_span(ROW, 1, 0, 2), (clip(0, 2, TILES), ROW[0], ROW[2]))
        for start in (-1, -2, -10 ** 40):
            self.check_bad(ROW, 1, start, 1)
            self.check_bad((clip(3, 5),), 0, start, 100)

    def test_lengths_below_one(self):
        self.assertEqual(with_span(ROW, 1, 10, 1), (ROW[0], clip(10, 1, TILES), ROW[2]))
        for length in (0, -1, -10 ** 40):
            self.check_bad(ROW, 1, 10, length)
            self.check_bad((clip(3, 5),), 0, 3, length)

    def test_fades_longer_than_the_length(self):
        self.assertEqual(with_span(ROW, 0, 2, 3), (clip(2, 3, RED, 1, 2),) + ROW[1:])
        self.assertEqual(with_span(ROW, 2, 15, 4), ROW[:2] + (clip(15, 4, FLAG, 0, 4),))
        for length in (1, 2):
            self.check_bad(ROW, 0, 2, length)
        for length in (1, 2, 3):
            self.check_bad(ROW, 2, 15, length)

    def test_beside_the_others_and_in_them(self):
        self.assertEqual(with_span(ROW, 1, 6, 9), (ROW[0], clip(6, 9, TILES), ROW[2]))
        self.check_bad(ROW, 1, 5, 9)
        self.check_bad(ROW, 1, 6, 10)
        self.check_bad(ROW, 1, 15, 1)
        self.check_bad(ROW, 1, 19, 5)
        self.check_bad(ROW, 1, 3, 1)
        self.check_bad(ROW, 1, 0, 30)
        self.check_bad(ROW, 0, 11, 100)

    def test_where_it_was_itself(self):
        self.assertEqual(with_span(ROW, 1, 11, 3), (ROW[0], clip(11, 3, TILES), ROW[2]))
        self.assertEqual(with_span(ROW, 0, 0, 10), (clip(0, 10, RED, 1, 2),) + ROW[1:])

    def test_past_others(self):
        self.assertEqual(with_span(ROW, 0, 20, 4), ROW[1:] + (clip(20, 4, RED, 1, 2),))
        self.assertEqual(with_span(ROW, 2, 6, 4), (ROW[0], clip(6, 4, FLAG, 0, 4), ROW[1]))

    def test_far_away(self):
        self.assertEqual(with_span(ROW, 0, 10 ** 40, 10 ** 40), ROW[1:] + (clip(10 ** 40, 10 ** 40, RED, 1, 2),))

    def test_a_layer_that_adjusts(self):
        self.assertEqual(with_span((clip(3, 5, None), clip(9, 1, None)), 1, 0, 3), (clip(0, 3, None), clip(3, 5, None)))

    def test_each_span(self):
        for place in range(-1, 4):
            for start in range(-1, 23):
                for length in range(-1, 9):
                    self.check(ROW, place, start, length)

    def test_random_clips(self):
        source = random.Random(53)
        for _ in range(100):
            clips = random_clips(source)
            for place in range(len(clips)):
                for _ in range(40):
                    self.check(clips, place, source.randrange(-1, 30), source.randrange(0, 9))


class MovedByTest(SpanCase):
    def test_the_length_and_the_rest_stay(self):
        self.assertEqual(moved_by(ROW, 0, 3), (clip(5, 4, RED, 1, 2),) + ROW[1:])
        self.assertEqual(moved_by(ROW, 0, -2), (clip(0, 4, RED, 1, 2),) + ROW[1:])
        self.assertEqual(moved_by(ROW, 1, 0), ROW)

    def test_no_such_clip(self):
        for place in (-10 ** 40, -4, -3, -1, 3, 4, 10 ** 40):
            for frames in (0, 1, 30):
                self.check_bad_move(ROW, place, frames)
        self.check_bad_move((), 0, 0)

    def test_starts_below_zero(self):
        for frames in (-3, -4, -10 ** 40):
            self.check_bad_move(ROW, 0, frames)
        self.check_bad_move(ROW, 1, -11)

    def test_beside_the_others_and_in_them(self):
        self.assertEqual(moved_by(ROW, 1, -4), (ROW[0], clip(6, 3, TILES), ROW[2]))
        self.assertEqual(moved_by(ROW, 1, 2), (ROW[0], clip(12, 3, TILES), ROW[2]))
        for frames in (-5, -6, -10, 3, 4, 9):
            self.check_bad_move(ROW, 1, frames)

    def test_past_others(self):
        self.assertEqual(moved_by(ROW, 0, 18), ROW[1:] + (clip(20, 4, RED, 1, 2),))
        wide = (clip(0, 2), clip(9, 3, TILES), clip(20, 4, FLAG))
        self.assertEqual(moved_by(wide, 2, -16), (clip(0, 2), clip(4, 4, FLAG), clip(9, 3, TILES)))
        self.assertEqual(moved_by(side_by_side(4), 0, 12), side_by_side(5)[1:])

    def test_each_move(self):
        for place in range(-1, 4):
            for frames in range(-20, 25):
                self.check_move(ROW, place, frames)

    def test_random_clips(self):
        source = random.Random(59)
        for _ in range(100):
            clips = random_clips(source)
            for place in range(-1, len(clips) + 1):
                for frames in range(-30, 31):
                    self.check_move(clips, place, frames)


if __name__ == "__main__":
    unittest.main()
