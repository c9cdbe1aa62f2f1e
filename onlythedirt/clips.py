"""The clips of a layer, and what is there at a frame (points 3.1 to 3.4)."""

from onlythedirt.errors import BadClip
from onlythedirt.paints import check_paint
from onlythedirt.pictures import is_number

CLIPS_MOST = 64
START_MOST = 10000
LENGTH_MOST = 10000
LEVEL_MOST = 256


def check_clips(clips, adjusts):
    """Raise the first error of what is passed as the clips of a layer, which adjusts what is below it or paints."""
    if not isinstance(clips, tuple) or len(clips) > CLIPS_MOST:
        raise BadClip()
    free = 0
    for place, clip in enumerate(clips):
        if not _has_form(clip) or (adjusts and not _is_bare(clip)):
            raise BadClip(place)
        if not adjusts:
            check_paint(clip[2])
        if clip[0] < free:
            raise BadClip(place)
        free = end_of(clip)


def clip_at(clips, frame):
    """Return the index of the clip that is there at a frame, or None."""
    for place, clip in enumerate(clips):
        if clip[0] <= frame < end_of(clip):
            return place
    return None


def level_at(clip, frame):
    """Return the level of a clip at one of its frames."""
    start, length, _, fade_in, fade_out = clip
    before = frame - start
    behind = length - before - 1
    if before < fade_in:
        return LEVEL_MOST * (before + 1) // (fade_in + 1)
    if behind < fade_out:
        return LEVEL_MOST * (behind + 1) // (fade_out + 1)
    return LEVEL_MOST


def lane(clips, frame):
    """Return the paint and the level of the clip that is there at a frame, or None."""
    place = clip_at(clips, frame)
    if place is None:
        return None
    clip = clips[place]
    return (clip[2], level_at(clip, frame))


def end_of(clip):
    """Return the first frame behind a clip."""
    return clip[0] + clip[1]


def _has_form(clip):
    """Tell whether it is a clip, whatever stands there as its paint."""
    if not isinstance(clip, tuple) or len(clip) != 5:
        return False
    start, length, _, fade_in, fade_out = clip
    if not is_number(start, 0, START_MOST) or not is_number(length, 1, LENGTH_MOST):
        return False
    return is_number(fade_in, 0, length) and is_number(fade_out, 0, length - fade_in)


def _is_bare(clip):
    """Tell whether a clip has neither a paint nor a fade."""
    return clip[2] is None and clip[3] == 0 and clip[4] == 0
