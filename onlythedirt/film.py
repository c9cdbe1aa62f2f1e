"""Films, and the items of their frames (points 4.1 to 4.6)."""

from onlythedirt.blends import check_what
from onlythedirt.clips import LEVEL_MOST, check_clips, lane
from onlythedirt.errors import BadFilm, BadLayer, DuplicateLayer
from onlythedirt.moves import check_moves, offset_at
from onlythedirt.paints import is_full, is_name
from onlythedirt.pictures import VALUE_MOST, is_number

SIDE_MOST = 64
FRAMES_MOST = 1000
LAYERS_MOST = 16
PLACE_MOST = 1000


class Film:
    """A film, which never changes."""

    def __init__(self, width, height, frames, background, layers):
        _check_numbers(width, height, frames, background)
        if len(layers) > LAYERS_MOST:
            raise BadFilm("layers")
        for place, layer in enumerate(layers):
            _check_layer(layer, place)
            if layer[0] in [other[0] for other in layers[:place]]:
                raise DuplicateLayer(layer[0])
        self._width = width
        self._height = height
        self._frames = frames
        self._background = background
        self._layers = list(layers)

    @property
    def width(self):
        """The width of the canvas."""
        return self._width

    @property
    def height(self):
        """The height of the canvas."""
        return self._height

    @property
    def frames(self):
        """The number of frames."""
        return self._frames

    @property
    def background(self):
        """The value where nothing covers the canvas."""
        return self._background

    @property
    def layers(self):
        """The layers from bottom to top, as a new list."""
        return list(self._layers)


def same_film(first, second):
    """Tell whether both films have equal numbers and equal layers."""
    return _numbers_of(first) == _numbers_of(second) and first.layers == second.layers


def extent_of(film, layer, frame):
    """Return the rectangle of a layer at a frame as far as it lies on the canvas, or None if it holds no point."""
    x, y = _corner_of(layer, frame)
    _, _, width, height = layer[1]
    left, top = max(0, x), max(0, y)
    right, bottom = min(film.width, x + width), min(film.height, y + height)
    if left >= right or top >= bottom:
        return None
    return (left, top, right, bottom)


def items_at(film, frame):
    """Return what covers the canvas at a frame, from bottom to top.

    Each item is a tuple (extent, corner, paint or None, level, mode, whether it hides all below).
    """
    items = [_item_of(film, layer, frame) for layer in film.layers]
    return [item for item in items if item is not None]


def _check_numbers(width, height, frames, background):
    """Raise BadFilm if a number of a film is not allowed."""
    if not is_number(width, 1, SIDE_MOST) or not is_number(height, 1, SIDE_MOST):
        raise BadFilm("size")
    if not is_number(frames, 1, FRAMES_MOST):
        raise BadFilm("frames")
    if not is_number(background, 0, VALUE_MOST):
        raise BadFilm("background")


def _check_layer(layer, place):
    """Raise the first error of a layer; whether its name stands twice is not looked at."""
    if not isinstance(layer, tuple) or len(layer) != 5:
        raise BadLayer(place)
    name, box, moves, what, clips = layer
    if not is_name(name) or not _is_box(box):
        raise BadLayer(place)
    check_moves(moves)
    check_what(what)
    check_clips(clips, _adjusts(what))


def _is_box(value):
    """Tell whether the value is the box of a layer."""
    if not isinstance(value, tuple) or len(value) != 4:
        return False
    are_places = all([is_number(item, -PLACE_MOST, PLACE_MOST) for item in value[:2]])
    return are_places and all([is_number(item, 1, SIDE_MOST) for item in value[2:]])


def _adjusts(what):
    """Tell whether a layer that does this adjusts what is below it."""
    return what[0] != "paint"


def _numbers_of(film):
    """Return the four numbers of a film."""
    return (film.width, film.height, film.frames, film.background)


def _corner_of(layer, frame):
    """Return the left upper corner of a layer at a frame."""
    across, down = offset_at(layer[2], frame)
    left, top, _, _ = layer[1]
    return (left + across, top + down)


def _item_of(film, layer, frame):
    """Return the item of a layer at a frame, or None if it has none there."""
    _, box, _, what, clips = layer
    there = lane(clips, frame)
    extent = extent_of(film, layer, frame)
    if there is None or extent is None:
        return None
    corner = _corner_of(layer, frame)
    if _adjusts(what):
        return (extent, corner, None, LEVEL_MOST, what, False)
    _, opacity, mode = what
    paint = there[0]
    level = opacity * there[1] // LEVEL_MOST
    if level == 0:
        return None
    hides = mode == "over" and level == LEVEL_MOST and is_full(paint, box[2], box[3])
    return (extent, corner, paint, level, (mode,), hides)
