"""The shown values of a frame, each worked out by itself (point 4.7)."""

from onlythedirt.blends import blended
from onlythedirt.clips import LEVEL_MOST
from onlythedirt.film import items_at
from onlythedirt.paints import paint_at


def shown(film, frame, x, y):
    """Return the shown value of a point of the canvas."""
    return _value_at(film.background, items_at(film, frame), x, y)


def picture_of(film, frame):
    """Return the rows of a frame from top to bottom, each with its shown values from left to right."""
    items = items_at(film, frame)
    return [[_value_at(film.background, items, x, y) for x in range(film.width)] for y in range(film.height)]


def values_at(film, frame, points):
    """Return the shown values of some points of the canvas, in their order."""
    items = items_at(film, frame)
    return [_value_at(film.background, items, x, y) for x, y in points]


def _value_at(background, items, x, y):
    """Return what the items of a frame make of the background at a point."""
    value = background
    for (left, top, right, bottom), corner, paint, level, mode, _ in items:
        if left <= x < right and top <= y < bottom:
            over, cover = paint_at(paint, x - corner[0], y - corner[1])
            value = blended(mode, value, over, cover * level // LEVEL_MOST)
    return value
