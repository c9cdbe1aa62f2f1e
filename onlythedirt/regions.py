"""Regions: finite sets of points, written as lists of rectangles (points 1.1 to 1.4).

Inside this file a region is also given as steps: a list of pairs (y, edges) with ascending y. From the row y up to
the next step, the edges of the runs are left, right, left, right and so on, ascending. The last step has no edges,
and neighbouring steps have different ones. So the edges have no bound, and the work depends on their number alone.
"""

from onlythedirt.errors import BadRectangle
from onlythedirt.whole import is_whole

# Which points are kept: those in neither region, in the second one alone, in the first one alone, in both.
_EITHER = (False, True, True, True)
_BOTH = (False, False, False, True)
_FIRST_ALONE = (False, False, True, False)


def is_rectangle(value):
    """Tell whether the value is a rectangle."""
    if not isinstance(value, tuple) or len(value) != 4:
        return False
    if not all([is_whole(item) for item in value]):
        return False
    left, top, right, bottom = value
    return left < right and top < bottom


def is_region(value):
    """Tell whether the value is a list that is the written form of a region."""
    if not isinstance(value, list) or not all([is_rectangle(item) for item in value]):
        return False
    steps = _steps_of(value)
    return _are_steps(steps) and _rectangles_of(steps) == value


def region_of(rectangles):
    """Return the region of the points that are in at least one of the rectangles."""
    for place, rectangle in enumerate(rectangles):
        if not is_rectangle(rectangle):
            raise BadRectangle(place)
    # Rectangles that are near each other in y are joined first, so that few rows are cut into more bands than needed.
    return _rectangles_of(_joined(sorted(rectangles, key=lambda rectangle: rectangle[1])))


def union(first, second):
    """Return the region of the points that are in the first or the second region."""
    return _combined_regions(first, second, _EITHER)


def common(first, second):
    """Return the region of the points that are in both regions."""
    return _combined_regions(first, second, _BOTH)


def without(first, second):
    """Return the region of the points that are in the first region but not in the second one."""
    return _combined_regions(first, second, _FIRST_ALONE)


def holds(region, x, y):
    """Tell whether the point is in the region."""
    for left, top, right, bottom in region:
        if left <= x < right and top <= y < bottom:
            return True
    return False


def points_of(region):
    """Return the points of the region, row by row."""
    return [
        (x, y)
        for top, bottom, runs in _bands_of(_steps_of(region))
        for y in range(top, bottom)
        for left, right in runs
        for x in range(left, right)
    ]


def area(region):
    """Return the number of points of the region."""
    return sum([(right - left) * (bottom - top) for left, top, right, bottom in region])


def moved(region, dx, dy):
    """Return the region with each point moved by dx to the right and by dy down."""
    return [(left + dx, top + dy, right + dx, bottom + dy) for left, top, right, bottom in region]


def cut_to(region, rectangle):
    """Return the region of the points of the region that are in the rectangle."""
    if not is_rectangle(rectangle):
        raise BadRectangle()
    return common(region, [rectangle])


def bounds(region):
    """Return the least rectangle that contains the region, or None if the region is empty."""
    if not region:
        return None
    left = min([rectangle[0] for rectangle in region])
    right = max([rectangle[2] for rectangle in region])
    return (left, region[0][1], right, region[-1][3])


def _combined_regions(first, second, kept):
    """Return the region of the points that are kept."""
    return _rectangles_of(_combined_steps(_steps_of(first), _steps_of(second), kept))


def _joined(rectangles):
    """Return the steps of the points that are in at least one of the rectangles."""
    if len(rectangles) < 2:
        return _steps_of(rectangles)
    middle = len(rectangles) // 2
    return _combined_steps(_joined(rectangles[:middle]), _joined(rectangles[middle:]), _EITHER)


def _combined_steps(first, second, kept):
    """Return the steps of the points that are kept."""
    steps = []
    latest = []
    in_first = in_second = 0
    # A y of both comes twice, but the second time the edges are no others than the latest ones.
    for y in sorted([step[0] for step in first + second]):
        if in_first < len(first) and first[in_first][0] == y:
            in_first += 1
        if in_second < len(second) and second[in_second][0] == y:
            in_second += 1
        edges = _combined_edges(_edges_behind(first, in_first), _edges_behind(second, in_second), kept)
        if edges != latest:
            steps.append((y, edges))
            latest = edges
    return steps


def _edges_behind(steps, passed):
    """Return the edges that hold when this many steps are passed."""
    if passed == 0:
        return []
    return steps[passed - 1][1]


def _combined_edges(first, second, kept):
    """Return the edges of the runs of one row that are kept."""
    edges = []
    in_first = in_second = 0
    for x in sorted(first + second):
        if in_first < len(first) and first[in_first] == x:
            in_first += 1
        if in_second < len(second) and second[in_second] == x:
            in_second += 1
        # Behind an odd number of edges a point is inside of a run, behind an even one outside.
        inside = kept[2 * (in_first & 1) + (in_second & 1)]
        if inside != (len(edges) & 1 == 1):
            edges.append(x)
    return edges


def _steps_of(rectangles):
    """Return the steps of a written form; of other rectangles, steps that do not lead back to them or are none."""
    steps = []
    end = None
    for left, top, right, bottom in rectangles:
        if steps and steps[-1][0] == top:
            steps[-1][1].extend([left, right])
            continue
        if end is not None and end < top:
            steps.append((end, []))
        steps.append((top, [left, right]))
        end = bottom
    if end is not None:
        steps.append((end, []))
    return steps


def _are_steps(steps):
    """Tell whether the steps ascend, their edges ascend, and neighbouring steps differ."""
    rows = [edges for _, edges in steps]
    differ = all([rows[place] != rows[place + 1] for place in range(len(rows) - 1)])
    return differ and _ascend([y for y, _ in steps]) and all([_ascend(edges) for edges in rows])


def _ascend(numbers):
    """Tell whether each number is greater than the one before it."""
    return all([numbers[place] < numbers[place + 1] for place in range(len(numbers) - 1)])


def _bands_of(steps):
    """Return the rows between neighbouring steps as tuples (top, bottom, runs), each run a tuple (left, right)."""
    return [
        (top, steps[place + 1][0], list(zip(edges[::2], edges[1::2])))
        for place, (top, edges) in enumerate(steps[:-1])
    ]


def _rectangles_of(steps):
    """Return the written form of steps."""
    return [(left, top, right, bottom) for top, bottom, runs in _bands_of(steps) for left, right in runs]
