"""Cuts and joins (points 3.5 to 3.7)."""

import random
import unittest

from onlythedirt.clips import check_clips
from onlythedirt.errors import BadCut, BadJoin
from onlythedirt.timeline import cut_at, join_at
from tests.filmwise import there
from tests.test_clips import FLAG, RED, TILES, clip, random_clips, side_by_side

# Alone, side by side, with a hole between, with fades of several lengths.
ROW = (clip(2, 6, RED, 1, 2), clip(8, 3, TILES), clip(13, 4, FLAG, 4, 0), clip(17, 1), clip(18, 5, RED, 0, 5))


def lanes(clips, frames=range(-2, 60)):
    return [there(clips, frame) for frame in frames]


def cut_by_words(clips, frame):
    """The clips behind the cut as point 3.5 tells it, or None."""
    for place, (start, length, paint, fade_in, fade_out) in enumerate(clips):
        end = start + length
        if start + fade_in <= frame <= end - fade_out and start < frame < end:
            halves = (start, frame - start, paint, fade_in, 0), (frame, end - frame, paint, 0, fade_out)
            return clips[:place] + halves + clips[place + 1:]
    return None


class CutTest(unittest.TestCase):
    def check(self, clips, frame):
        expected = cut_by_words(clips, frame)
        if expected is None:
            self.check_bad(clips, frame)
        else:
            found = cut_at(clips, frame)
            self.assertEqual(found, expected)
            self.assertIs(type(found), tuple)
            self.assertEqual(lanes(found), lanes(clips))

    def check_bad(self, clips, frame):
        with self.assertRaises(BadCut) as caught:
            cut_at(clips, frame)
        self.assertEqual(caught.exception.place, frame)

    def test_a_clip_alone(self):
        self.assertEqual(cut_at((clip(3, 5),), 4), (clip(3, 1), clip(4, 4)))
        self.assertEqual(cut_at((clip(3, 5),), 7), (clip(3, 4), clip(7, 1)))

    def test_the_fades_go_to_their_ends(self):
        self.assertEqual(cut_at((clip(0, 8, RED, 2, 3),), 4), (clip(0, 4, RED, 2, 0), clip(4, 4, RED, 0, 3)))

    def test_between_others(self):
        self.assertEqual(cut_at(ROW, 9), (ROW[0], clip(8, 1, TILES), clip(9, 2, TILES)) + ROW[2:])
        self.assertEqual(cut_at(ROW, 5), (clip(2, 3, RED, 1, 0), clip(5, 3, RED, 0, 2)) + ROW[1:])

    def test_the_bounds_and_beside_them(self):
        clips = (clip(10, 9, FLAG, 3, 2),)
        self.assertEqual(cut_at(clips, 13), (clip(10, 3, FLAG, 3, 0), clip(13, 6, FLAG, 0, 2)))
        self.assertEqual(cut_at(clips, 17), (clip(10, 7, FLAG, 3, 0), clip(17, 2, FLAG, 0, 2)))
        for frame in (11, 12, 18):
            self.check_bad(clips, frame)

    def test_the_starts_and_ends_of_clips(self):
        for start, length, _, _, _ in ROW:
            self.check_bad(ROW, start)
            self.check_bad(ROW, start + length)

    def test_each_frame(self):
        for frame in range(-3, 30):
            self.check(ROW, frame)

    def test_no_clip_there(self):
        for frame in (-10 ** 40, -1, 0, 1, 12, 24, 10 ** 40):
            self.check_bad(ROW, frame)
            self.check_bad((), frame)

    def test_fades_of_each_length(self):
        for length in range(1, 8):
            for fade_in in range(length + 1):
                for fade_out in range(length - fade_in + 1):
                    for frame in range(2, 12):
                        self.check((clip(3, length, RED, fade_in, fade_out),), frame)

    def test_fades_together_as_long_as_the_clip(self):
        clips = (clip(0, 5, RED, 2, 3),)
        self.assertEqual(cut_at(clips, 2), (clip(0, 2, RED, 2, 0), clip(2, 3, RED, 0, 3)))
        for frame in (1, 3, 4):
            self.check_bad(clips, frame)

    def test_a_layer_that_adjusts(self):
        self.assertEqual(cut_at((clip(3, 5, None),), 6), (clip(3, 3, None), clip(6, 2, None)))

    def test_as_many_clips_as_a_layer_has(self):
        self.assertEqual(cut_at(side_by_side(64), 1), (clip(0, 1), clip(1, 2)) + side_by_side(64)[1:])

    def test_random_clips(self):
        source = random.Random(41)
        for _ in range(150):
            clips = random_clips(source)
            for frame in range(-1, 50):
                self.check(clips, frame)


class JoinTest(unittest.TestCase):
    def check_bad(self, clips, *places):
        for place in places:
            with self.assertRaises(BadJoin) as caught:
                join_at(clips, place)
            self.assertEqual(caught.exception.place, place)

    def test_two(self):
        self.assertEqual(join_at((clip(3, 5), clip(8, 2)), 0), (clip(3, 7),))
        self.assertEqual(join_at((clip(0, 1, FLAG), clip(1, 1, FLAG)), 0), (clip(0, 2, FLAG),))

    def test_the_fades_at_the_ends_stay(self):
        self.assertEqual(join_at((clip(3, 5, RED, 5, 0), clip(8, 4, RED, 0, 3)), 0), (clip(3, 9, RED, 5, 3),))

    def test_between_others(self):
        self.assertEqual(join_at(side_by_side(5), 2), side_by_side(2) + (clip(6, 6), clip(12, 3)))
        self.assertEqual(join_at(side_by_side(5), 3), side_by_side(3) + (clip(9, 6),))
        self.assertEqual(join_at(side_by_side(5), 0), (clip(0, 6),) + side_by_side(5)[2:])

    def test_a_layer_that_adjusts(self):
        self.assertEqual(join_at((clip(3, 5, None), clip(8, 2, None)), 0), (clip(3, 7, None),))

    def test_longer_than_a_clip_of_a_layer(self):
        self.assertEqual(join_at((clip(0, 10000), clip(10000, 10000)), 0), (clip(0, 20000),))

    def test_no_such_clips(self):
        self.check_bad(side_by_side(5), -10 ** 40, -6, -5, -2, -1, 4, 5, 6, 10 ** 40)
        self.check_bad(side_by_side(1), -2, -1, 0, 1)
        self.check_bad((), -1, 0, 1)

    def test_apart(self):
        self.check_bad((clip(3, 5), clip(9, 2)), 0)
        self.check_bad((clip(3, 5), clip(1000, 2)), 0)

    def test_unlike_paints(self):
        nearly = ("picture", (1, 1, (5,), (255,)))
        for first, second in ((RED, TILES), (RED, ("solid", 10)), (FLAG, nearly), (TILES, ("steps", 0, 255, 4))):
            self.check_bad((clip(3, 5, first), clip(8, 2, second)), 0)
            self.check_bad((clip(3, 5, second), clip(8, 2, first)), 0)

    def test_equal_paints_that_are_written_anew(self):
        for paint in (("solid", 9), ("steps", 0, 255, 3), ("picture", (1, 1, (5,), (256,)))):
            again = tuple(list(paint))
            self.assertEqual(join_at((clip(3, 5, paint), clip(8, 2, again)), 0), (clip(3, 7, paint),))

    def test_fades_between(self):
        self.check_bad((clip(3, 5, RED, 0, 1), clip(8, 2)), 0)
        self.check_bad((clip(3, 5), clip(8, 2, RED, 1, 0)), 0)
        self.check_bad((clip(3, 5, RED, 0, 5), clip(8, 2, RED, 2, 0)), 0)

    def test_what_is_cut_and_joined_again(self):
        source = random.Random(43)
        for _ in range(150):
            clips = random_clips(source)
            for frame in range(50):
                parts = cut_by_words(clips, frame)
                if parts is not None:
                    place = [part[0] for part in parts].index(frame) - 1
                    self.assertEqual(join_at(cut_at(clips, frame), place), clips)

    def test_random_clips(self):
        source = random.Random(47)
        for _ in range(300):
            clips = random_clips(source)
            for place in range(-1, len(clips) + 1):
                fit = 0 <= place < len(clips) - 1
                if fit:
                    first, second = clips[place:place + 2]
                    fit = (sum(first[:2]), first[2], 0, 0) == (second[0], second[2], first[4], second[3])
                if fit:
                    found = join_at(clips, place)
                    self.assertIsNone(check_clips(found, False))
                    self.assertEqual(len(found), len(clips) - 1)
                    self.assertEqual(lanes(found), lanes(clips))
                else:
                    self.check_bad(clips, place)


if __name__ == "__main__":
    unittest.main()
