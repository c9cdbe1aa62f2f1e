"""What layers do, and how values blend (points 2.7 and 2.8)."""

from onlythedirt.errors import BadWhat
from onlythedirt.pictures import COVER_MOST, VALUE_MOST, is_number

MODES = ("over", "add", "times")


def check_what(what):
    """Raise BadWhat if it is nothing that a layer does."""
    if not _has_form(what):
        raise BadWhat(what)


def blended(mode, value, paint, cover):
    """Return what becomes of a value below under a value of a paint with this cover."""
    return value + (_target(mode, value, paint) - value) * cover // COVER_MOST


def _has_form(what):
    """Tell whether it is such a tuple as point 2.7 lists."""
    if not isinstance(what, tuple):
        return False
    match what:
        case ("paint", opacity, mode):
            return is_number(opacity, 0, COVER_MOST) and mode in MODES
        case ("invert",):
            return True
        case ("shift", n):
            return is_number(n, -VALUE_MOST, VALUE_MOST)
        case _:
            return False


def _target(mode, value, paint):
    """Return the result that the mode has with the whole cover."""
    word = mode[0]
    if word == "over":
        return paint
    if word == "add":
        return min(VALUE_MOST, value + paint)
    if word == "times":
        return value * paint // VALUE_MOST
    if word == "invert":
        return VALUE_MOST - value
    return max(0, min(VALUE_MOST, value + mode[1]))
