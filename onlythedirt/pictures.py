"""Pictures: small tables of values and covers (points 2.1 to 2.3)."""

from onlythedirt.errors import BadPicture
from onlythedirt.whole import is_whole

VALUE_MOST = 255
COVER_MOST = 256
PICTURE_SIDE_MOST = 12


def is_number(value, least, most):
    """Tell whether the value is an integer from least to most."""
    return is_whole(value) and least <= value <= most


def check_picture(picture):
    """Raise BadPicture if it is not a picture."""
    if not isinstance(picture, tuple) or len(picture) != 4:
        raise BadPicture()
    width, height, values, covers = picture
    if not is_number(width, 1, PICTURE_SIDE_MOST):
        raise BadPicture(0)
    if not is_number(height, 1, PICTURE_SIDE_MOST):
        raise BadPicture(1)
    if not _are_numbers(values, width * height, VALUE_MOST):
        raise BadPicture(2)
    if not _are_numbers(covers, width * height, COVER_MOST):
        raise BadPicture(3)


def point_in(picture, x, y):
    """Return the value and the cover at a point of the picture or outside of it."""
    width, height, values, covers = picture
    if not (0 <= x < width and 0 <= y < height):
        return (0, 0)
    place = y * width + x
    return (values[place], covers[place])


def filled(width, height, value, cover):
    """Return the picture that has this value and this cover at all points."""
    many = width * height
    return (width, height, (value,) * many, (cover,) * many)


def mirrored(picture):
    """Return the picture with left and right exchanged."""
    width, height = picture[:2]
    return _picture_of(
        width, height, [point_in(picture, width - 1 - x, y) for y in range(height) for x in range(width)]
    )


def turned(picture):
    """Return the picture turned by a quarter to the right."""
    width, height = picture[:2]
    return _picture_of(
        height, width, [point_in(picture, y, height - 1 - x) for y in range(width) for x in range(height)]
    )


def part_of(picture, left, top, width, height):
    """Return the picture of this size whose left upper corner is the point (left, top) of the picture."""
    return _picture_of(
        width, height, [point_in(picture, left + x, top + y) for y in range(height) for x in range(width)]
    )


def _are_numbers(items, many, most):
    """Tell whether it is a tuple of this many integers from 0 to most."""
    if not isinstance(items, tuple) or len(items) != many:
        return False
    return all([is_number(item, 0, most) for item in items])


def _picture_of(width, height, points):
    """Return the picture that has these values and covers, row by row."""
    return (width, height, tuple([value for value, _ in points]), tuple([cover for _, cover in points]))
