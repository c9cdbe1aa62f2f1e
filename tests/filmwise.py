"""What the document says of films, worked out point by point; of the program only the properties of films are used."""

import math
from fractions import Fraction

from onlythedirt.film import Film
from tests.pointwise import written
from tests.test_blends import result
from tests.test_moves import offset

LOW = ("low", (0, 0, 3, 2), (), ("paint", 256, "over"), ((0, 9, ("solid", 50), 0, 0),))
HIGH = ("high", (1, 0, 2, 1), (), ("paint", 256, "over"), ((0, 9, ("solid", 200), 0, 0),))
NAMES = ("a", "bc", "def", "low", "high", "z")
PAINTS = (
    ("solid", 50), ("solid", 51), ("solid", 0), ("steps", 10, 200, 1), ("steps", 10, 200, 2), ("steps", 255, 0, 12),
    ("picture", (2, 2, (1, 2, 3, 4), (256, 256, 256, 256))), ("picture", (2, 2, (1, 2, 3, 4), (256, 0, 128, 256))),
    ("picture", (3, 1, (9, 99, 199), (256, 256, 256))), ("picture", (12, 12, (77,) * 144, (256,) * 144)),
)
WHATS = (
    ("paint", 256, "over"), ("paint", 256, "over"), ("paint", 128, "over"), ("paint", 256, "add"), ("paint", 1, "over"),
    ("paint", 200, "times"), ("paint", 0, "over"), ("invert",), ("shift", 40), ("shift", -70),
)


def example():
    """The film at the head of the document."""
    return Film(4, 2, 9, 10, [LOW, HIGH])


def numbers(film):
    return (film.width, film.height, film.frames, film.background)


def everything(film):
    """The numbers and the layers of a film."""
    return numbers(film) + (film.layers,)


def level(clip, frame):
    """Point 3.3."""
    start, length, _, fade_in, fade_out = clip
    a, b = frame - start, start + length - 1 - frame
    if a < fade_in:
        return math.floor(Fraction(256 * (a + 1), fade_in + 1))
    if b < fade_out:
        return math.floor(Fraction(256 * (b + 1), fade_out + 1))
    return 256


def there(clips, frame):
    """Point 3.4."""
    found = [clip for clip in clips if frame in range(clip[0], clip[0] + clip[1])]
    return (found[0][2], level(found[0], frame)) if found else None


def paint_point(paint, x, y):
    """Point 2.4."""
    if paint is None:
        return (0, 256)
    if paint[0] == "solid":
        return (paint[1], 256)
    if paint[0] == "steps":
        return (paint[1 + (math.floor(Fraction(x, paint[3])) + math.floor(Fraction(y, paint[3]))) % 2], 256)
    width, height, values, covers = paint[1]
    if x in range(width) and y in range(height):
        return (values[x + y * width], covers[x + y * width])
    return (0, 0)


def is_covered(paint, width, height):
    """Point 2.6."""
    if paint is None:
        return False
    return all(paint_point(paint, x, y)[1] == 256 for x in range(width) for y in range(height))


def sheets(film, frame):
    """The items of a frame, from bottom to top, with their points instead of their extents (points 4.4 to 4.6)."""
    found = []
    for _, (left, top, width, height), moves, what, clips in film.layers:
        now = there(clips, frame)
        dx, dy = offset(moves, frame)
        corner = (left + dx, top + dy)
        points = {
            (x, y)
            for x in range(corner[0], corner[0] + width) if x in range(film.width)
            for y in range(corner[1], corner[1] + height) if y in range(film.height)
        }
        if now is None or not points:
            continue
        if what[0] != "paint":
            found.append((points, corner, None, 256, what, False))
            continue
        strength = math.floor(Fraction(what[1] * now[1], 256))
        hides = what[2] == "over" and strength == 256 and is_covered(now[0], width, height)
        if strength > 0:
            found.append((points, corner, now[0], strength, (what[2],), hides))
    return found


def stack_in(film, items, x, y):
    """Point 4.8."""
    found = []
    for points, corner, paint, strength, mode, hides in items[::-1]:
        if (x, y) in points:
            is_plain = paint is None or paint[0] == "solid"
            found.append((paint, None if is_plain else corner, strength, mode))
            if hides:
                return found
    return found + [film.background]


def stack(film, frame, x, y):
    return stack_in(film, sheets(film, frame), x, y)


def picture(film, frame):
    """Point 4.7 at each point of the canvas."""
    rows = [[film.background] * film.width for _ in range(film.height)]
    for points, corner, paint, strength, mode, _ in sheets(film, frame):
        for x, y in points:
            value, cover = paint_point(paint, x - corner[0], y - corner[1])
            rows[y][x] = result(mode, rows[y][x], value, math.floor(Fraction(cover * strength, 256)))
    return rows


def dirt_points(first, second, frame):
    """The points of the dirt (point 4.9)."""
    before, behind = sheets(first, frame), sheets(second, frame)
    return {
        (x, y)
        for x in range(first.width)
        for y in range(first.height)
        if stack_in(first, before, x, y) != stack_in(second, behind, x, y)
    }


def dirt(first, second, frame):
    return written(dirt_points(first, second, frame))


def random_clips(source, what, end=12):
    """Clips for a layer that does this, most of them before the frame end."""
    clips, free = [], 0
    while free < end and source.randrange(5):
        start, length = free + source.choice((0, 0, 1, 2)), source.randrange(1, 8)
        if what[0] == "paint":
            fade_in = source.choice((0, 0, source.randrange(length + 1)))
            fade_out = source.choice((0, 0, source.randrange(length - fade_in + 1)))
            clips.append((start, length, source.choice(PAINTS), fade_in, fade_out))
        else:
            clips.append((start, length, None, 0, 0))
        free = start + length
    return tuple(clips)


def random_moves(source):
    frames = sorted(source.sample(range(12), source.choice((0, 0, 0, 1, 2, 3))))
    return tuple((frame, source.randrange(-4, 5), source.randrange(-4, 5)) for frame in frames)


def random_box(source):
    return (source.randrange(-3, 7), source.randrange(-3, 5), source.randrange(1, 7), source.randrange(1, 5))


def random_layer(source, name):
    what = source.choice(WHATS)
    return (name, random_box(source), random_moves(source), what, random_clips(source, what))


def random_film(source, width=7, height=5, frames=12):
    names = source.sample(NAMES, source.randrange(len(NAMES)))
    return Film(width, height, frames, source.choice((0, 10, 255)), [random_layer(source, name) for name in names])
