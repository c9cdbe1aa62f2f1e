"""The stacks of points, and where those of two films differ (points 4.8 and 4.9).

Inside this file a frame is given as sheets, from top to bottom. Each is a tuple (extent, entry of a stack, whether it
hides all below). The background is the last sheet: it covers the whole canvas, and nothing is below it.
"""

from onlythedirt.film import items_at
from onlythedirt.regions import region_of


def stack_at(film, frame, x, y):
    """Return what covers a point of the canvas, from the top down."""
    return _stack_of(_sheets_of(film, frame), x, y)


def dirt_of(first, second, frame):
    """Return the region of the points whose stacks in two films of the same size are not equal."""
    before, behind = _sheets_of(first, frame), _sheets_of(second, frame)
    if before == behind:
        return []
    extents = [sheet[0] for sheet in before + behind]
    # No extent has an edge within such a cell, so its points have the same stack.
    columns = _stretches([left for left, _, _, _ in extents] + [right for _, _, right, _ in extents])
    rows = _stretches([top for _, top, _, _ in extents] + [bottom for _, _, _, bottom in extents])
    cells = [
        (left, top, right, bottom)
        for top, bottom in rows
        for left, right in columns
        if _stack_of(before, left, top) != _stack_of(behind, left, top)
    ]
    return region_of(cells)


def _sheets_of(film, frame):
    """Return the sheets of a frame."""
    sheets = [(item[0], _entry_of(item), item[5]) for item in reversed(items_at(film, frame))]
    return sheets + [((0, 0, film.width, film.height), film.background, True)]


def _entry_of(item):
    """Return the entry that an item adds to a stack."""
    _, corner, paint, level, mode, _ = item
    # What looks the same at every point does not depend on where its layer begins.
    if paint is None or paint[0] == "solid":
        return (paint, None, level, mode)
    return (paint, corner, level, mode)


def _stack_of(sheets, x, y):
    """Return the entries of the sheets at a point, down to the first one that hides all below."""
    stack = []
    for (left, top, right, bottom), entry, hides in sheets:
        if left <= x < right and top <= y < bottom:
            stack.append(entry)
            if hides:
                return stack
    return stack


def _stretches(edges):
    """Return the stretches between neighbouring edges as pairs, in ascending order."""
    ascending = sorted(set(edges))
    return list(zip(ascending, ascending[1:]))
