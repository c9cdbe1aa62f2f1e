"""Names, and the paints of clips (points 2.1 and 2.4 to 2.6)."""

from onlythedirt.errors import BadPaint
from onlythedirt.pictures import COVER_MOST, VALUE_MOST, check_picture, is_number, point_in

NAME_MOST = 8
LETTERS = "abcdefghijklmnopqrstuvwxyz"
STEP_MOST = 12


def is_name(value):
    """Tell whether the value is a name."""
    if not isinstance(value, str) or not 1 <= len(value) <= NAME_MOST:
        return False
    return all([letter in LETTERS for letter in value])


def check_paint(paint):
    """Raise BadPaint if it is not a paint, or the error of its picture."""
    if not _has_form(paint):
        raise BadPaint(paint)
    if paint[0] == "picture":
        check_picture(paint[1])


def paint_at(paint, x, y):
    """Return the value and the cover of a paint, or of None, at a point of its layer."""
    if paint is None:
        return (0, COVER_MOST)
    if paint[0] == "solid":
        return (paint[1], COVER_MOST)
    if paint[0] == "picture":
        return point_in(paint[1], x, y)
    _, first, second, size = paint
    is_even = (x // size + y // size) % 2 == 0
    return (first if is_even else second, COVER_MOST)


def is_full(paint, width, height):
    """Tell whether the paint has its whole cover at all points of this size."""
    if paint is None:
        return False
    if paint[0] != "picture":
        return True
    return _is_full_picture(paint[1], width, height)


def _has_form(paint):
    """Tell whether it is such a tuple as a paint is; what stands there as a picture is not looked at."""
    if not isinstance(paint, tuple):
        return False
    match paint:
        case ("solid", value):
            return is_number(value, 0, VALUE_MOST)
        case ("picture", _):
            return True
        case ("steps", first, second, size):
            are_values = is_number(first, 0, VALUE_MOST) and is_number(second, 0, VALUE_MOST)
            return are_values and is_number(size, 1, STEP_MOST)
        case _:
            return False


def _is_full_picture(picture, width, height):
    """Tell whether the picture has the cover 256 at all points of this size."""
    across, down, _, covers = picture
    if width > across or height > down:
        return False
    starts = [y * across for y in range(height)]
    return all([cover == COVER_MOST for start in starts for cover in covers[start:start + width]])
