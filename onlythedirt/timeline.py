"""Clips that are cut, joined, moved, trimmed, lifted, placed and rippled (points 3.5 to 3.11)."""

from onlythedirt.clips import end_of
from onlythedirt.errors import BadCut, BadJoin, BadPlace


def cut_at(clips, frame):
    """Return the clips with the one cut that has frames on both sides of the frame."""
    place = _place_across(clips, frame)
    if place is None:
        raise BadCut(frame)
    return _cut(clips, place, frame)


def join_at(clips, place):
    """Return the clips with the one of this index and the next one joined."""
    if not 0 <= place < len(clips) - 1 or not _are_one(clips[place], clips[place + 1]):
        raise BadJoin(place)
    start, length, paint, fade_in, _ = clips[place]
    behind = clips[place + 1]
    return clips[:place] + ((start, length + behind[1], paint, fade_in, behind[4]),) + clips[place + 2:]


def with_span(clips, place, start, length):
    """Return the clips with another start and length of the one of this index."""
    if not _has_place(clips, place):
        raise BadPlace(place)
    _, _, paint, fade_in, fade_out = clips[place]
    others = clips[:place] + clips[place + 1:]
    is_free = all([_is_beside(clip, start, start + length) for clip in others])
    if start < 0 or length < 1 or length < fade_in + fade_out or not is_free:
        raise BadPlace(place)
    return _with_clip(others, (start, length, paint, fade_in, fade_out))


def moved_by(clips, place, frames):
    """Return the clips with the one of this index so many frames later."""
    if not _has_place(clips, place):
        raise BadPlace(place)
    return with_span(clips, place, clips[place][0] + frames, clips[place][1])


def lifted(clips, first, last):
    """Return the clips without what is there from the frame first up to the frame last."""
    parts = _parted(_parted(clips, first), last)
    return tuple([clip for clip in parts if _is_beside(clip, first, last)])


def placed(clips, clip):
    """Return the clips with this one instead of what is there at its frames."""
    return _with_clip(lifted(clips, clip[0], end_of(clip)), clip)


def rippled_out(clips, first, last):
    """Return the clips without these frames, which those behind close up."""
    return _later(lifted(clips, first, last), last, first - last)


def rippled_in(clips, frame, count):
    """Return the clips with so many frames more at the frame, at which nothing is there."""
    return _later(_parted(clips, frame), frame, count)


def _place_across(clips, frame):
    """Return the index of the clip that has frames on both sides of the frame, or None."""
    for place, clip in enumerate(clips):
        if clip[0] < frame < end_of(clip):
            return place
    return None


def _cut(clips, place, frame):
    """Return the clips with the one of this index cut at a frame within it."""
    start, length, paint, fade_in, fade_out = clips[place]
    end = start + length
    if not start + fade_in <= frame <= end - fade_out:
        raise BadCut(frame)
    halves = ((start, frame - start, paint, fade_in, 0), (frame, end - frame, paint, 0, fade_out))
    return clips[:place] + halves + clips[place + 1:]


def _parted(clips, frame):
    """Return the clips, cut at the frame if one has frames on both sides of it."""
    place = _place_across(clips, frame)
    if place is None:
        return clips
    return _cut(clips, place, frame)


def _are_one(first, second):
    """Tell whether the second clip goes on where the first one ends, with its paint and without a fade between."""
    is_next = second[0] == end_of(first) and second[2] == first[2]
    return is_next and first[4] == 0 and second[3] == 0


def _has_place(clips, place):
    """Tell whether there is a clip of this index."""
    return 0 <= place < len(clips)


def _is_beside(clip, first, last):
    """Tell whether the clip has no frame from first up to last."""
    return end_of(clip) <= first or last <= clip[0]


def _with_clip(clips, clip):
    """Return the clips and one more, in ascending order."""
    return tuple(sorted(clips + (clip,), key=lambda item: item[0]))


def _later(clips, frame, count):
    """Return the clips, with those from the frame on so many frames later."""
    return tuple([(clip[0] + count,) + clip[1:] if frame <= clip[0] else clip for clip in clips])
