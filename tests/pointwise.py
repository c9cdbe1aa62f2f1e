"""What the document says of regions, worked out point by point, with no code of the program."""

import random

FAR = 10 ** 40
RING = [(0, 0, 3, 1), (0, 1, 1, 2), (2, 1, 3, 2), (0, 2, 3, 3)]
WRONG_RECTANGLES = (
    None, True, False, 5, "", "0011", (), (0, 0, 1), (0, 0, 1, 1, 1), [0, 0, 1, 1], (0, 0, 0, 1), (0, 0, 1, 0),
    (1, 0, 0, 1), (0, 1, 1, 0), (0, 0, True, 1), (False, 0, 1, 1), (0, None, 1, 1), (0, 0, 1, "1"), (0, 0, (1,), 1),
    ((0, 0, 1, 1),),
)


def points_in(rectangles):
    """The set of the points that are in at least one of the rectangles."""
    return {
        (x, y)
        for left, top, right, bottom in rectangles
        for y in range(top, bottom)
        for x in range(left, right)
    }


def runs_of(xs):
    """The longest stretches of neighbouring numbers as pairs (left, right)."""
    runs = []
    for x in sorted(xs):
        if runs and runs[-1][1] == x:
            runs[-1] = (runs[-1][0], x + 1)
        else:
            runs.append((x, x + 1))
    return runs


def written(points):
    """The written form of a set of points (point 1.3)."""
    rows = {}
    for x, y in points:
        rows.setdefault(y, []).append(x)
    bands = []
    for y in sorted(rows):
        runs = runs_of(rows[y])
        if bands and bands[-1][1] == y and bands[-1][2] == runs:
            bands[-1] = (bands[-1][0], y + 1, runs)
        else:
            bands.append((y, y + 1, runs))
    return [(left, top, right, bottom) for top, bottom, runs in bands for left, right in runs]


def row_by_row(points):
    """The points in the order of points_of."""
    return sorted(points, key=lambda point: (point[1], point[0]))


def random_rectangles(source, many, side=9):
    """A list of rectangles with edges from -side to side; some of them may stand there twice."""
    rectangles = []
    for _ in range(many):
        left, right = sorted(source.sample(range(-side, side + 1), 2))
        top, bottom = sorted(source.sample(range(-side, side + 1), 2))
        rectangles.append((left, top, right, bottom))
    return rectangles


def random_lists(seed, many):
    """Lists of rectangles of different lengths, the same ones for the same seed."""
    source = random.Random(seed)
    return [random_rectangles(source, source.randrange(7), source.choice((2, 4, 9))) for _ in range(many)]


def all_regions(width, height):
    """The written forms of all sets of points of a small grid around (0, 0)."""
    grid = [(x - 1, y - 1) for y in range(height) for x in range(width)]
    return [
        written([point for place, point in enumerate(grid) if number >> place & 1])
        for number in range(2 ** len(grid))
    ]
