"""Clips that are lifted, placed and rippled (points 3.9 to 3.11)."""

import random
import unittest

from onlythedirt.clips import check_clips
from onlythedirt.errors import BadCut
from onlythedirt.timeline import lifted, placed, rippled_in, rippled_out
from tests.filmwise import there
from tests.test_clips import FLAG, RED, TILES, clip, random_clips, side_by_side

ROW = (clip(2, 6, RED, 1, 2), clip(8, 3, TILES), clip(13, 4, FLAG), clip(17, 2), clip(22, 8, RED, 3, 3))
FRAMES = range(70)


def cut_by_words(clips, frame):
    """The clips, cut at the frame if one has frames on both sides of it; None if it cannot be cut."""
    found = []
    for one in clips:
        start, length, paint, fade_in, fade_out = one
        end = start + length
        if not start < frame < end:
            found.append(one)
        elif start + fade_in <= frame <= end - fade_out:
            found += [(start, frame - start, paint, fade_in, 0), (frame, end - frame, paint, 0, fade_out)]
        else:
            return None
    return found


def lifted_by_words(clips, first, last):
    """What lifted gives as point 3.9 tells it; or, if a clip cannot be cut, the frame."""
    parts = cut_by_words(clips, first)
    if parts is None:
        return first
    parts = cut_by_words(parts, last)
    if parts is None:
        return last
    return tuple(part for part in parts if part[0] < first or part[0] >= last)


class RippleCase(unittest.TestCase):
    def check_bad(self, frame, function, *arguments):
        with self.assertRaises(BadCut) as caught:
            function(*arguments)
        self.assertEqual(caught.exception.place, frame)

    def check_lanes(self, found, lane):
        """That it is a tuple of clips with this lane, which is given as a function of the frame."""
        self.assertIs(type(found), tuple)
        self.assertIsNone(check_clips(found, False))
        self.assertEqual([there(found, frame) for frame in FRAMES], [lane(frame) for frame in FRAMES])

    def check_span(self, clips, first, last):
        """lifted, placed and rippled_out with these frames."""
        new = clip(first, last - first, TILES, last - first)
        expected = lifted_by_words(clips, first, last)
        if isinstance(expected, int):
            self.check_bad(expected, lifted, clips, first, last)
            self.check_bad(expected, rippled_out, clips, first, last)
            self.check_bad(expected, placed, clips, new)
            return
        many = last - first
        earlier = tuple(one for one in expected if one[0] < first)
        later = expected[len(earlier):]
        self.assertEqual(lifted(clips, first, last), expected)
        self.assertEqual(placed(clips, new), earlier + (new,) + later)
        closed = earlier + tuple((one[0] - many,) + one[1:] for one in later)
        self.assertEqual(rippled_out(clips, first, last), closed)
        self.check_lanes(lifted(clips, first, last), lambda f: None if first <= f < last else there(clips, f))
        self.check_lanes(placed(clips, new), lambda f: there((new,) if first <= f < last else clips, f))
        self.check_lanes(rippled_out(clips, first, last), lambda f: there(clips, f if f < first else f + many))

    def check_in(self, clips, frame, count):
        """rippled_in with these numbers."""
        parts = cut_by_words(clips, frame)
        if parts is None:
            self.check_bad(frame, rippled_in, clips, frame, count)
            return
        expected = tuple(one if one[0] < frame else (one[0] + count,) + one[1:] for one in parts)
        self.assertEqual(rippled_in(clips, frame, count), expected)

        def lane(f):
            if frame <= f < frame + count:
                return None
            return there(clips, f if f < frame else f - count)

        self.check_lanes(rippled_in(clips, frame, count), lane)


class LiftedTest(RippleCase):
    def test_before_between_and_behind_the_clips(self):
        far = 10 ** 40
        for first, last in ((0, 1), (0, 2), (11, 12), (11, 13), (19, 22), (30, 31), (30, far), (far, far + 1)):
            self.assertEqual(lifted(ROW, first, last), ROW)

    def test_whole_clips(self):
        self.assertEqual(lifted(ROW, 8, 11), ROW[:1] + ROW[2:])
        self.assertEqual(lifted(ROW, 0, 100), ())
        self.assertEqual(lifted(ROW, 2, 17), ROW[3:])
        self.assertEqual(lifted(ROW, 11, 30), ROW[:2])

    def test_within_one_clip(self):
        self.assertEqual(lifted(ROW, 25, 27), ROW[:4] + (clip(22, 3, RED, 3, 0), clip(27, 3, RED, 0, 3)))
        self.assertEqual(lifted((clip(3, 5),), 4, 5), (clip(3, 1), clip(5, 3)))

    def test_over_several_clips(self):
        self.assertEqual(lifted(ROW, 4, 15), (clip(2, 2, RED, 1, 0), clip(15, 2, FLAG)) + ROW[3:])
        self.assertEqual(lifted(ROW, 9, 18), ROW[:1] + (clip(8, 1, TILES), clip(18, 1), ROW[4]))

    def test_from_the_start_and_up_to_the_end_of_a_clip(self):
        self.assertEqual(lifted(ROW, 2, 5), (clip(5, 3, RED, 0, 2),) + ROW[1:])
        self.assertEqual(lifted(ROW, 5, 8), (clip(2, 3, RED, 1, 0),) + ROW[1:])

    def test_through_a_fade(self):
        self.check_bad(7, lifted, ROW, 7, 9)
        self.check_bad(7, lifted, ROW, 0, 7)
        self.check_bad(23, lifted, ROW, 23, 29)
        self.check_bad(29, lifted, ROW, 26, 29)
        self.check_bad(24, lifted, ROW, 13, 24)

    def test_the_first_cut_comes_first(self):
        self.check_bad(7, lifted, ROW, 7, 23)
        self.check_bad(28, lifted, ROW, 28, 29)

    def test_a_fade_that_is_wholly_within_the_span(self):
        self.assertEqual(lifted(ROW, 21, 31), ROW[:4])
        self.assertEqual(lifted((clip(0, 6, RED, 3, 3), clip(6, 4)), 0, 7), (clip(7, 3),))

    def test_no_clips(self):
        self.assertEqual(lifted((), 0, 5), ())

    def test_a_layer_that_adjusts(self):
        self.assertEqual(lifted((clip(0, 9, None),), 3, 4), (clip(0, 3, None), clip(4, 5, None)))

    def test_each_span(self):
        for first in range(33):
            for last in range(first + 1, 34):
                self.check_span(ROW, first, last)

    def test_random_clips(self):
        source = random.Random(61)
        for _ in range(120):
            clips = random_clips(source)
            for _ in range(15):
                first = source.randrange(30)
                self.check_span(clips, first, first + source.randrange(1, 12))


class PlacedTest(RippleCase):
    def test_on_nothing(self):
        new = clip(3, 4, FLAG, 1, 2)
        self.assertEqual(placed((), new), (new,))
        self.assertEqual(placed((clip(0, 3), clip(7, 3)), new), (clip(0, 3), new, clip(7, 3)))
        self.assertEqual(placed((clip(9, 3),), new), (new, clip(9, 3)))
        self.assertEqual(placed((clip(0, 2),), new), (clip(0, 2), new))

    def test_on_clips(self):
        new = clip(4, 12, TILES, 5, 5)
        self.assertEqual(placed(ROW, new), (clip(2, 2, RED, 1, 0), new, clip(16, 1, FLAG)) + ROW[3:])
        self.assertEqual(placed(ROW, clip(8, 3, FLAG, 3)), ROW[:1] + (clip(8, 3, FLAG, 3),) + ROW[2:])

    def test_within_one_clip(self):
        self.assertEqual(placed((clip(0, 9, RED, 2, 2),), clip(3, 2, TILES)), (
            clip(0, 3, RED, 2, 0), clip(3, 2, TILES), clip(5, 4, RED, 0, 2),
        ))

    def test_through_a_fade(self):
        self.check_bad(7, placed, ROW, clip(7, 20))
        self.check_bad(23, placed, ROW, clip(12, 11))

    def test_equal_paints_are_not_joined(self):
        self.assertEqual(placed((clip(0, 3), clip(6, 3)), clip(3, 3)), side_by_side(3))


class RippledOutTest(RippleCase):
    def test_the_example(self):
        clips = ((0, 8, ("solid", 9), 2, 2), (10, 5, ("solid", 7), 0, 0))
        self.assertEqual(
            rippled_out(clips, 3, 6),
            ((0, 3, ("solid", 9), 2, 0), (3, 2, ("solid", 9), 0, 2), (7, 5, ("solid", 7), 0, 0)),
        )

    def test_before_between_and_behind_the_clips(self):
        self.assertEqual(rippled_out(ROW, 0, 2), tuple((one[0] - 2,) + one[1:] for one in ROW))
        self.assertEqual(rippled_out(ROW, 11, 12), ROW[:2] + (clip(12, 4, FLAG), clip(16, 2), clip(21, 8, RED, 3, 3)))
        self.assertEqual(rippled_out(ROW, 30, 10 ** 40), ROW)

    def test_whole_clips(self):
        self.assertEqual(rippled_out(side_by_side(5), 3, 9), side_by_side(3)[:1] + (clip(3, 3), clip(6, 3)))
        self.assertEqual(rippled_out(side_by_side(5), 0, 15), ())

    def test_through_a_fade(self):
        self.check_bad(7, rippled_out, ROW, 7, 23)
        self.check_bad(23, rippled_out, ROW, 5, 23)

    def test_no_clips(self):
        self.assertEqual(rippled_out((), 0, 5), ())


class RippledInTest(RippleCase):
    def test_before_between_and_behind_the_clips(self):
        self.assertEqual(rippled_in(ROW, 0, 4), tuple((one[0] + 4,) + one[1:] for one in ROW))
        self.assertEqual(rippled_in(ROW, 2, 1), tuple((one[0] + 1,) + one[1:] for one in ROW))
        later = (clip(20, 4, FLAG), clip(24, 2), clip(29, 8, RED, 3, 3))
        for frame in (11, 12, 13):
            self.assertEqual(rippled_in(ROW, frame, 7), ROW[:2] + later)
        for frame in (30, 31, 10 ** 40):
            self.assertEqual(rippled_in(ROW, frame, 5), ROW)

    def test_within_a_clip(self):
        self.assertEqual(rippled_in((clip(3, 5, RED, 1, 2),), 5, 10), (clip(3, 2, RED, 1, 0), clip(15, 3, RED, 0, 2)))

    def test_where_clips_touch(self):
        self.assertEqual(rippled_in(side_by_side(2), 3, 100), (clip(0, 3), clip(103, 3)))

    def test_through_a_fade(self):
        for frame in (7, 23, 24, 28, 29):
            self.check_bad(frame, rippled_in, ROW, frame, 1)

    def test_frames_below_zero(self):
        self.assertEqual(rippled_in(ROW, -5, 3), tuple((one[0] + 3,) + one[1:] for one in ROW))

    def test_no_clips(self):
        self.assertEqual(rippled_in((), 0, 5), ())

    def test_a_layer_that_adjusts(self):
        self.assertEqual(rippled_in((clip(0, 9, None),), 3, 1), (clip(0, 3, None), clip(4, 6, None)))

    def test_later_than_a_clip_of_a_layer_starts(self):
        self.assertEqual(rippled_in((clip(10000, 1),), 0, 1), (clip(10001, 1),))

    def test_each_frame(self):
        for frame in range(33):
            for count in (1, 2, 9):
                self.check_in(ROW, frame, count)

    def test_random_clips(self):
        source = random.Random(67)
        for _ in range(120):
            clips = random_clips(source)
            for frame in range(0, 40, 2):
                self.check_in(clips, frame + source.randrange(2), source.randrange(1, 10))


if __name__ == "__main__":
    unittest.main()
