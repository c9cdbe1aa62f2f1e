"""The clips of a layer (points 3.1 to 3.4)."""

import copy
import random
import unittest

from onlythedirt.clips import check_clips, clip_at, lane, level_at
from onlythedirt.errors import BadClip, BadPaint, BadPicture
from tests.wrong import NO_NUMBERS, exchanged

RED = ("solid", 9)
TILES = ("steps", 0, 255, 3)
FLAG = ("picture", (1, 1, (5,), (256,)))
NO_PAINTS = (
    None, True, 7, "solid", (), ("solid",), ("solid", 256), ("solid", True), ["solid", 9], ("stripes", 1, 2, 3),
)
NO_CLIPS = (
    None, True, False, 0, 5, "", "abcde", (), (0,), (0, 5), (0, 5, None), (0, 5, None, 0), (0, 5, None, 0, 0, 0), [],
    [0, 5, None, 0, 0], ((0, 5, None, 0, 0),),
)


def clip(start, length, paint=RED, fade_in=0, fade_out=0):
    return (start, length, paint, fade_in, fade_out)


def side_by_side(many, paint=RED):
    return tuple(clip(3 * place, 3, paint) for place in range(many))


def random_clips(source):
    clips, free = [], 0
    for _ in range(source.randrange(6)):
        start, length = free + source.choice((0, 0, 1, 3)), source.randrange(1, 9)
        fade_in = source.randrange(length + 1)
        fade_out = source.randrange(length - fade_in + 1)
        clips.append(clip(start, length, source.choice((RED, TILES, FLAG)), fade_in, fade_out))
        free = start + length
    return tuple(clips)


class CheckTest(unittest.TestCase):
    def check_bad(self, clips, adjusts, place, kind=BadClip):
        with self.assertRaises(kind) as caught:
            check_clips(clips, adjusts)
        self.assertEqual(caught.exception.place, place, clips)
        self.assertEqual(type(caught.exception.place), type(place))

    def check_bad_clip(self, wrong):
        """At each index, in a layer with paint and, without its paint, in one that adjusts."""
        for adjusts in (False, True):
            if isinstance(wrong, tuple) and len(wrong) == 5:
                wrong = exchanged(wrong, {2: None if adjusts else RED})
            for place in (0, 1, 5):
                clips = side_by_side(6, None if adjusts else RED)
                self.check_bad(exchanged(clips, {place: wrong}), adjusts, place)
                self.check_bad(clips[:place] + (wrong,), adjusts, place)

    def check_right(self, clips, adjusts=False):
        before = copy.deepcopy(clips)
        self.assertIsNone(check_clips(clips, adjusts))
        self.assertEqual(clips, before)

    def test_right_clips(self):
        self.check_right(())
        self.check_right((), True)
        self.check_right((clip(0, 8, RED, 2, 2), clip(10, 5, TILES), clip(15, 1, FLAG, 1)))
        self.check_right((clip(0, 8, None), clip(10, 5, None), clip(15, 1, None)), True)

    def test_random_clips(self):
        source = random.Random(31)
        for _ in range(200):
            clips = random_clips(source)
            self.check_right(clips)
            self.check_right(tuple(clip(start, length, None) for start, length, _, _, _ in clips), True)

    def test_starts_and_lengths_at_their_bounds(self):
        for start in (0, 1, 9999, 10000):
            for length in (1, 2, 9999, 10000):
                self.check_right((clip(start, length),))
                self.check_right((clip(start, length, None),), True)

    def test_wrong_starts(self):
        for start in NO_NUMBERS + (-1, -10 ** 40, 10001, 10 ** 40):
            self.check_bad_clip(clip(start, 5))

    def test_wrong_lengths(self):
        for length in NO_NUMBERS + (0, -1, -10 ** 40, 10001, 10 ** 40):
            self.check_bad_clip(clip(0, length))

    def test_wrong_fades(self):
        for fade in NO_NUMBERS + (-1, -10 ** 40, 6, 10 ** 40):
            self.check_bad_clip(clip(0, 5, RED, fade, 0))
            self.check_bad_clip(clip(0, 5, RED, 0, fade))

    def test_fades_together(self):
        for length in (1, 2, 5, 10000):
            for fade_in in (0, 1, length // 2, length - 1, length):
                fade_out = length - fade_in
                self.check_right((clip(0, length, RED, fade_in, fade_out),))
                self.check_bad_clip(clip(0, length, RED, fade_in, fade_out + 1))
                self.check_bad_clip(clip(0, length, RED, fade_in + 1, fade_out))
        self.check_bad_clip(clip(0, 5, RED, -1, 6))
        self.check_bad_clip(clip(0, 5, RED, 6, -1))

    def test_what_is_no_clip(self):
        for wrong in NO_CLIPS:
            self.check_bad_clip(wrong)

    def test_how_many(self):
        for many in (0, 1, 63, 64):
            self.check_right(side_by_side(many))
            self.check_right(side_by_side(many, None), True)
        for many in (65, 66, 200):
            for adjusts in (False, True):
                self.check_bad(side_by_side(many, None if adjusts else RED), adjusts, None)
                self.check_bad((None,) * many, adjusts, None)

    def test_what_is_no_tuple(self):
        for value in (None, True, False, 0, 5, "", "clips", [], [clip(0, 5)], list(side_by_side(65))):
            for adjusts in (False, True):
                self.check_bad(value, adjusts, None)

    def test_a_clip_instead_of_the_clips(self):
        self.check_bad(clip(0, 5), False, 0)
        self.check_bad(clip(0, 5, None), True, 0)

    def test_clips_side_by_side_and_overlapping(self):
        for adjusts, paint in ((False, RED), (True, None)):
            for start in (8, 9, 10000):
                self.check_right((clip(3, 5, paint), clip(start, 2, paint)), adjusts)
            for start in (0, 1, 2, 3, 4, 7):
                self.check_bad((clip(3, 5, paint), clip(start, 1, paint)), adjusts, 1)
            self.check_bad((clip(10, 5, paint), clip(0, 2, paint)), adjusts, 1)
            self.check_bad((clip(0, 9, paint), clip(9, 2, paint), clip(10, 1, paint)), adjusts, 2)
            self.check_bad((clip(0, 9, paint), clip(20, 1, paint), clip(9, 2, paint)), adjusts, 2)
            self.check_bad(side_by_side(5, paint) + side_by_side(5, paint), adjusts, 5)

    def test_a_layer_that_adjusts(self):
        for wrong in (
            clip(0, 5, RED), clip(0, 5, FLAG), clip(0, 5, None, 1, 0), clip(0, 5, None, 0, 1), clip(0, 5, False),
            clip(0, 5, 0), clip(0, 5, ""), clip(0, 5, ()), clip(0, 5, ("solid", 256)), clip(0, 5, None, 2, 3),
            clip(0, 5, "none"), clip(0, 5, ("none",)),
        ):
            for place in (0, 1, 5):
                self.check_bad(exchanged(side_by_side(6, None), {place: wrong}), True, place)

    def test_wrong_paints(self):
        for paint in NO_PAINTS:
            for place in (0, 1, 5):
                clips = exchanged(side_by_side(6), {place: clip(3 * place, 3, paint, 1, 2)})
                with self.assertRaises(BadPaint) as caught:
                    check_clips(clips, False)
                self.assertIs(caught.exception.place, paint)

    def test_wrong_pictures(self):
        for place, picture in ((None, None), (0, (13, 1, (5,), (256,))), (3, (1, 1, (5,), (257,)))):
            self.check_bad((clip(0, 5), clip(5, 5, ("picture", picture))), False, place, BadPicture)

    def test_the_form_comes_before_the_paint(self):
        wrong = ("solid", 256)
        for bad in (clip(-1, 5, wrong), clip(0, 0, wrong), clip(0, 5, wrong, 3, 3), clip(0, 5, wrong, True)):
            self.check_bad((bad,), False, 0)

    def test_the_paint_comes_before_the_start(self):
        wrong = ("solid", 256)
        self.check_bad((clip(0, 5), clip(4, 5, wrong)), False, wrong, BadPaint)
        self.check_bad((clip(0, 5), clip(4, 5, ("picture", (0, 1, (), ())))), False, 0, BadPicture)

    def test_the_first_wrong_item_counts(self):
        wrong = ("solid", 256)
        self.check_bad((clip(0, 5), clip(4, 5), None), False, 1)
        self.check_bad((clip(0, 5), clip(4, 5), clip(9, 5, wrong)), False, 1)
        self.check_bad((clip(0, 5), clip(5, 5, wrong), clip(0, 5)), False, wrong, BadPaint)
        self.check_bad((clip(0, 5), clip(5, 5, wrong), None), False, wrong, BadPaint)
        self.check_bad((clip(0, 5, None), None, clip(0, 5, RED)), True, 1)
        self.check_bad((clip(0, 5, None), clip(5, 5, RED), None), True, 1)
        self.check_bad((clip(0, 5, None), clip(3, 5, None), clip(9, 5, RED)), True, 1)


class LevelTest(unittest.TestCase):
    def levels(self, start, length, fade_in, fade_out):
        given = clip(start, length, RED, fade_in, fade_out)
        return [level_at(given, frame) for frame in range(start, start + length)]

    def test_no_fade(self):
        self.assertEqual(self.levels(0, 4, 0, 0), [256] * 4)
        self.assertEqual(self.levels(7, 1, 0, 0), [256])
        self.assertEqual([level_at(clip(2, 3, None), frame) for frame in (2, 3, 4)], [256] * 3)

    def test_a_fade_in(self):
        self.assertEqual(self.levels(0, 5, 3, 0), [64, 128, 192, 256, 256])
        self.assertEqual(self.levels(10, 4, 2, 0), [85, 170, 256, 256])
        self.assertEqual(self.levels(3, 3, 1, 0), [128, 256, 256])
        self.assertEqual(self.levels(3, 3, 3, 0), [64, 128, 192])

    def test_a_fade_out(self):
        self.assertEqual(self.levels(0, 5, 0, 3), [256, 256, 192, 128, 64])
        self.assertEqual(self.levels(10, 4, 0, 2), [256, 256, 170, 85])
        self.assertEqual(self.levels(3, 3, 0, 1), [256, 256, 128])
        self.assertEqual(self.levels(3, 3, 0, 3), [192, 128, 64])

    def test_both(self):
        self.assertEqual(self.levels(5, 8, 2, 3), [85, 170, 256, 256, 256, 192, 128, 64])
        self.assertEqual(self.levels(0, 6, 2, 3), [85, 170, 256, 192, 128, 64])

    def test_together_as_long_as_the_clip(self):
        self.assertEqual(self.levels(5, 5, 2, 3), [85, 170, 192, 128, 64])
        self.assertEqual(self.levels(0, 2, 1, 1), [128, 128])
        self.assertEqual(self.levels(0, 1, 1, 0), [128])
        self.assertEqual(self.levels(0, 1, 0, 1), [128])

    def test_long_fades(self):
        self.assertEqual(level_at(clip(0, 10000, RED, 10000), 0), 0)
        self.assertEqual(level_at(clip(0, 10000, RED, 10000), 9999), 255)
        self.assertEqual(level_at(clip(10000, 10000, RED, 0, 10000), 10000), 255)
        self.assertEqual(level_at(clip(10000, 10000, RED, 0, 10000), 19999), 0)

    def test_every_short_clip_against_the_words_of_the_point(self):
        for length in range(1, 8):
            for fade_in in range(length + 1):
                for fade_out in range(length - fade_in + 1):
                    rising = [256 * many // (fade_in + 1) for many in range(1, fade_in + 1)]
                    falling = [256 * many // (fade_out + 1) for many in range(fade_out, 0, -1)]
                    expected = rising + [256] * (length - fade_in - fade_out) + falling
                    self.assertEqual(self.levels(4, length, fade_in, fade_out), expected)


class LaneTest(unittest.TestCase):
    CLIPS = (clip(2, 3, RED, 1, 1), clip(5, 2, TILES), clip(9, 1, FLAG, 0, 1), clip(12, 4))

    def test_clip_at(self):
        found = [clip_at(self.CLIPS, frame) for frame in range(18)]
        self.assertEqual(found, [None] * 2 + [0] * 3 + [1] * 2 + [None] * 2 + [2] + [None] * 2 + [3] * 4 + [None] * 2)

    def test_lane(self):
        self.assertEqual([lane(self.CLIPS, frame) for frame in range(18)], [
            None, None, (RED, 128), (RED, 256), (RED, 128), (TILES, 256), (TILES, 256), None, None, (FLAG, 128), None,
            None, (RED, 256), (RED, 256), (RED, 256), (RED, 256), None, None,
        ])

    def test_far_frames(self):
        for frame in (-1, -10 ** 40, 16, 10 ** 40):
            self.assertIsNone(clip_at(self.CLIPS, frame))
            self.assertIsNone(lane(self.CLIPS, frame))

    def test_no_clips(self):
        for frame in (-1, 0, 1, 1000):
            self.assertIsNone(clip_at((), frame))
            self.assertIsNone(lane((), frame))

    def test_a_layer_that_adjusts(self):
        clips = (clip(0, 2, None), clip(3, 1, None))
        self.assertEqual([clip_at(clips, frame) for frame in range(5)], [0, 0, None, 1, None])
        there = (None, 256)
        self.assertEqual([lane(clips, frame) for frame in range(5)], [there, there, None, there, None])

    def test_the_longest_clip_that_starts_last(self):
        clips = (clip(0, 10000), clip(10000, 10000, TILES))
        self.assertEqual([clip_at(clips, frame) for frame in (0, 9999, 10000, 19999, 20000)], [0, 0, 1, 1, None])

    def test_random_clips(self):
        source = random.Random(37)
        for _ in range(200):
            clips = random_clips(source)
            before = copy.deepcopy(clips)
            for frame in range(-2, 60):
                there = [place for place, one in enumerate(clips) if frame in range(one[0], one[0] + one[1])]
                self.assertEqual(clip_at(clips, frame), there[0] if there else None)
                found = lane(clips, frame)
                if there:
                    self.assertEqual(found, (clips[there[0]][2], level_at(clips[there[0]], frame)))
                    self.assertIs(type(found), tuple)
                else:
                    self.assertIsNone(found)
            self.assertEqual(clips, before)


if __name__ == "__main__":
    unittest.main()
