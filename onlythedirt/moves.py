"""How layers move across the canvas (points 2.9 and 2.10)."""

from onlythedirt.errors import BadMoves
from onlythedirt.pictures import is_number

MOVES_MOST = 16
MOVE_FRAME_MOST = 1000
DISTANCE_MOST = 1000


def check_moves(moves):
    """Raise BadMoves if they are not the moves of a layer."""
    if not isinstance(moves, tuple) or len(moves) > MOVES_MOST:
        raise BadMoves()
    least = 0
    for place, point in enumerate(moves):
        if not _is_point(point, least):
            raise BadMoves(place)
        least = point[0] + 1


def offset_at(moves, frame):
    """Return the distances to the right and down of a layer with these moves at a frame."""
    passed = [point for point in moves if point[0] <= frame]
    coming = moves[len(passed):]
    if passed and coming:
        return _between(passed[-1], coming[0], frame)
    if passed:
        return passed[-1][1:]
    if coming:
        return coming[0][1:]
    return (0, 0)


def _is_point(point, least):
    """Tell whether it is a point of moves whose frame is not before this least one."""
    if not isinstance(point, tuple) or len(point) != 3:
        return False
    frame, across, down = point
    return is_number(frame, least, MOVE_FRAME_MOST) and _is_distance(across) and _is_distance(down)


def _is_distance(value):
    """Tell whether the value is a distance of a move."""
    return is_number(value, -DISTANCE_MOST, DISTANCE_MOST)


def _between(first, second, frame):
    """Return the offset at a frame from that of the first point on and before that of the second one."""
    start, across, down = first
    gone = frame - start
    span = second[0] - start
    return (across + (second[1] - across) * gone // span, down + (second[2] - down) * gone // span)
