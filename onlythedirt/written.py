"""Films as text (points 5.1 to 5.3)."""

from onlythedirt.blends import MODES
from onlythedirt.errors import BadLine
from onlythedirt.film import Film

DIGITS = "0123456789"
DIGITS_MOST = 6
# Behind lines of which words a line of each word may stand; only the first line stands behind none.
BEHIND = {
    "film": (None,),
    "layer": ("film", "layer", "move", "clip"),
    "move": ("layer", "move"),
    "clip": ("layer", "move", "clip"),
}


def format_film(film):
    """Return the text that writes a film."""
    lines = [_line_of(("film", film.width, film.height, film.frames, film.background))]
    for name, box, moves, what, clips in film.layers:
        lines.append(_line_of(("layer", name) + box + what))
        lines.extend([_line_of(("move",) + point) for point in moves])
        lines.extend([_line_of(_items_of_clip(clip)) for clip in clips])
    return "\n".join(lines)


def parse_film(text):
    """Return the film that a text writes."""
    lines = [line.split(" ") for line in text.split("\n")]
    rows = []
    before = None
    for place, words in enumerate(lines):
        if before not in BEHIND.get(words[0], ()):
            raise BadLine(place)
        rows.append((words[0], _content_of(words, place)))
        before = words[0]
    width, height, frames, background = rows[0][1]
    return Film(width, height, frames, background, _layers_of(rows[1:]))


def _line_of(items):
    """Return the line that writes these items."""
    return " ".join([str(item) for item in items])


def _items_of_clip(clip):
    """Return the items of the line of a clip."""
    start, length, paint, fade_in, fade_out = clip
    items = ("clip", start, length, fade_in, fade_out)
    if paint is None:
        return items + ("none",)
    if paint[0] == "picture":
        width, height, values, covers = paint[1]
        return items + ("picture", width, height) + values + covers
    return items + paint


def _content_of(words, place):
    """Return what the line of this index tells: four numbers, a layer without moves and clips, a move or a clip."""
    match words:
        case ["film", *numbers]:
            return _numbers_of(numbers, 4, place)
        case ["layer", name, *rest]:
            return (name, _numbers_of(rest[:4], 4, place), (), _what_of(rest[4:], place), ())
        case ["move", *numbers]:
            return _numbers_of(numbers, 3, place)
        case ["clip", *rest]:
            start, length, fade_in, fade_out = _numbers_of(rest[:4], 4, place)
            return (start, length, _paint_of(rest[4:], place), fade_in, fade_out)
        case _:
            raise BadLine(place)


def _what_of(words, place):
    """Return what these words of a line say that a layer does."""
    match words:
        case ["paint", opacity, mode]:
            if mode not in MODES:
                raise BadLine(place)
            return ("paint", _number_of(opacity, place), mode)
        case ["invert"]:
            return ("invert",)
        case ["shift", number]:
            return ("shift", _number_of(number, place))
        case _:
            raise BadLine(place)


def _paint_of(words, place):
    """Return the paint, or None, that these words of a line write."""
    match words:
        case ["none"]:
            return None
        case ["solid", value]:
            return ("solid", _number_of(value, place))
        case ["steps", *numbers]:
            return ("steps",) + _numbers_of(numbers, 3, place)
        case ["picture", width, height, *points]:
            return ("picture", _picture_of(_number_of(width, place), _number_of(height, place), points, place))
        case _:
            raise BadLine(place)


def _picture_of(width, height, words, place):
    """Return the picture of this size whose values and covers these words of a line write."""
    if width < 0 or height < 0:
        raise BadLine(place)
    many = width * height
    numbers = _numbers_of(words, 2 * many, place)
    return (width, height, numbers[:many], numbers[many:])


def _numbers_of(words, many, place):
    """Return the numbers that these words of a line write, which are as many as told."""
    if len(words) != many:
        raise BadLine(place)
    return tuple([_number_of(word, place) for word in words])


def _number_of(word, place):
    """Return the number that a word of a line writes."""
    digits = word[1:] if word.startswith("-") else word
    if not 1 <= len(digits) <= DIGITS_MOST or not all([digit in DIGITS for digit in digits]):
        raise BadLine(place)
    # A zero in front stands only in the number 0, which has no sign.
    if digits.startswith("0") and word != "0":
        raise BadLine(place)
    return int(word)


def _layers_of(rows):
    """Return the layers that lines write, each a tuple of its word and what it tells; the first one is of a layer."""
    groups = []
    for row in rows:
        if row[0] == "layer":
            groups.append([])
        groups[-1].append(row)
    return [_layer_of(group) for group in groups]


def _layer_of(group):
    """Return the layer that its own line and those of its moves and clips write."""
    name, box, _, what, _ = group[0][1]
    moves = tuple([content for word, content in group if word == "move"])
    clips = tuple([content for word, content in group if word == "clip"])
    return (name, box, moves, what, clips)
