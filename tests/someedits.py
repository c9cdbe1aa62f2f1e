"""Edits that the tests of several modules do."""

from onlythedirt.edits import done
from onlythedirt.errors import FilmError
from onlythedirt.film import Film
from tests.filmwise import NAMES, PAINTS, WHATS, random_box, random_clips, random_layer, random_moves

RED = ("solid", 9)
TILES = ("steps", 0, 255, 3)
OVER = ("paint", 256, "over")
ONE = ("one", (0, 0, 3, 2), ((0, 0, 0), (4, 2, 1)), OVER, ((0, 4, RED, 1, 0), (4, 4, RED, 0, 1), (10, 5, TILES, 0, 0)))
TWO = ("two", (1, 0, 2, 2), (), ("invert",), ((2, 6, None, 0, 0),))
SIX = ("six", (2, 1, 5, 5), ((3, 1, 1),), ("paint", 128, "add"), ((5, 3, TILES, 1, 1), (8, 9, RED, 0, 3)))
# One right edit of each word, for the film below.
EDITS = (
    ("layers", 1, 2, ()), ("clips", "one", 0, 1, ()), ("moves", "one", 0, 1, ()), ("box", "one", (5, 5, 1, 1)),
    ("what", "one", ("paint", 7, "times")), ("background", 77), ("frames", 7), ("size", 5, 6), ("cut", "one", 2),
    ("join", "one", 0), ("move", "one", 2, 3), ("trim", "one", 2, 8, 9), ("lift", "one", 2, 12),
    ("place", "one", (9, 3, RED, 0, 0)), ("ripple out", 11, 13), ("ripple in", 9, 4), ("all", (("background", 77),)),
)
WITH_A_NAME = tuple(edit for edit in EDITS if isinstance(edit[1], str))


def some_film():
    return Film(8, 6, 20, 10, [ONE, TWO, SIX])


def outcome(function, *arguments):
    """What a call gives: its result, or the word and the place of its error."""
    try:
        return ("result", function(*arguments))
    except FilmError as error:
        return (error.word, error.place)


def random_timeline_edit(source, film):
    name, _, _, what, _ = source.choice(film.layers)
    first = source.randrange(12)
    last = first + source.randrange(1, 6)
    paint = source.choice(PAINTS) if what[0] == "paint" else None
    fade = source.choice((0, 0, 1)) if paint else 0
    return source.choice((
        ("cut", name, first), ("join", name, source.randrange(3)), ("lift", name, first, last),
        ("move", name, source.randrange(3), source.randrange(-4, 5)),
        ("trim", name, source.randrange(3), first, last - first),
        ("place", name, (first, last - first, paint, fade, 0)),
    ))


def random_list_edit(source, film):
    name, _, moves, what, clips = source.choice(film.layers)
    first = source.randrange(len(moves) + 1)
    one = source.randrange(len(clips) + 1)
    return source.choice((
        ("moves", name, first, len(moves), moves[first + 1:]), ("moves", name, 0, len(moves), random_moves(source)),
        ("clips", name, one, len(clips), clips[one + 1:]), ("clips", name, 0, len(clips), random_clips(source, what)),
        ("box", name, random_box(source)), ("what", name, source.choice(WHATS)),
    ))


def random_film_edit(source, film):
    place = source.randrange(len(film.layers) + 1)
    others = film.layers[place:][::-1]
    layer = random_layer(source, source.choice(NAMES))
    return source.choice((
        ("layers", place, place, (layer,)), ("layers", place, len(film.layers), tuple(others[1:])),
        ("layers", place, len(film.layers), tuple(others)), ("background", source.choice((0, 10, 11, 256))),
        ("frames", source.randrange(4, 14)), ("ripple out", place, place + source.randrange(1, 4)),
        ("ripple in", source.randrange(12), source.randrange(1, 4)), ("all", ()),
    ))


def random_edit(source, film, depth=0):
    """An edit that has its form; many of them can be done."""
    chance = source.randrange(12)
    if chance == 0:
        return ("size", film.width + source.choice((0, 0, 0, 1)), film.height)
    if chance == 1 and depth < 3:
        return random_all(source, film, depth + 1)
    if chance < 5 or not film.layers:
        return random_film_edit(source, film)
    return source.choice((random_timeline_edit, random_list_edit))(source, film)


def random_all(source, film, depth):
    edits = []
    for _ in range(source.randrange(4)):
        edit = random_edit(source, film, depth)
        word, behind = outcome(done, film, edit)
        if word == "result":
            film = behind
            edits.append(edit)
        elif not source.randrange(8):
            edits.append(edit)
    return ("all", tuple(edits))
