"""Edits of films, and the edits that lead back (points 3.12 to 3.14).

An "all" may contain others, as deep as a caller likes. So it is taken apart with a list of what is still to do: a
function that calls itself would fail where they are deep enough.
"""

from onlythedirt.errors import BadEdit, UnknownLayer
from onlythedirt.film import Film
from onlythedirt.pictures import is_number
from onlythedirt.timeline import cut_at, join_at, lifted, moved_by, placed, rippled_in, rippled_out, with_span
from onlythedirt.whole import is_whole

# How many items the edits of each word have, the word counted.
ITEMS = {
    "layers": 4, "clips": 5, "moves": 5, "box": 3, "what": 3, "background": 2, "frames": 2, "size": 3, "cut": 3,
    "join": 3, "move": 4, "trim": 5, "lift": 4, "place": 3, "ripple out": 3, "ripple in": 3, "all": 2,
}
WITH_A_TUPLE_AT_THE_END = ("layers", "clips", "moves", "box", "what", "place", "all")


def done(film, edit):
    """Return the film behind the edit."""
    _check_forms(edit)
    behind = film
    for part in _parts_of(edit):
        if part is not None and part[0] != "all":
            behind = _done_alone(behind, part)
    return behind


def inverse(film, edit):
    """Return the edit that leads from the film behind the edit back to the film."""
    _check_forms(edit)
    before = film
    # What is found so far: at first what no "all" contains, then what each "all" contains that has not ended.
    found = [[]]
    for part in _parts_of(edit):
        if part is None:
            inner = found.pop()
            found[-1].append(("all", tuple(inner[::-1])))
        elif part[0] == "all":
            found.append([])
        else:
            behind = _done_alone(before, part)
            found[-1].append(_inverse_alone(before, behind, part))
            before = behind
    return found[0][0]


def _check_forms(edit):
    """Raise BadEdit if the edit, or one within it, does not have the form of an edit."""
    waiting = [edit]
    while waiting:
        part = waiting.pop()
        if not _has_form(part):
            raise BadEdit()
        if part[0] == "all":
            waiting.extend(part[1])


def _parts_of(edit):
    """Return the edit and all edits within it in the order in which they are done, and None where an "all" ends."""
    parts = []
    waiting = [edit]
    while waiting:
        part = waiting.pop()
        parts.append(part)
        if part is not None and part[0] == "all":
            waiting.append(None)
            waiting.extend(part[1][::-1])
    return parts


def _has_form(edit):
    """Tell whether it has the form of an edit; what an "all" contains is not looked at."""
    if not isinstance(edit, tuple) or not edit or not isinstance(edit[0], str):
        return False
    if len(edit) != ITEMS.get(edit[0]):
        return False
    if edit[0] in WITH_A_TUPLE_AT_THE_END and not isinstance(edit[-1], tuple):
        return False
    return _has_numbers(edit)


def _has_numbers(edit):
    """Tell whether the numbers of the timeline's words are as told; other words have none to look at."""
    match edit:
        case ("cut" | "join" | "move" | "trim", _, *numbers):
            return all([is_whole(number) for number in numbers])
        case ("lift", _, first, last):
            return _is_span(first, last)
        case ("ripple out", first, last):
            return _is_span(first, last)
        case ("ripple in", frame, count):
            return _is_from(frame, 0) and _is_from(count, 1)
        case ("place", _, clip):
            return len(clip) == 5 and _is_from(clip[0], 0) and _is_from(clip[1], 1)
        case _:
            return True


def _is_from(value, least):
    """Tell whether the value is an integer from the least one on."""
    return is_whole(value) and least <= value


def _is_span(first, last):
    """Tell whether these are the bounds of a span of frames."""
    return _is_from(first, 0) and _is_from(last, first + 1)


def _done_alone(film, edit):
    """Return the film behind an edit that is no "all"."""
    match edit:
        case ("layers", first, last, items):
            return _with_layers(film, list(_exchanged(tuple(film.layers), first, last, items)))
        case ("background", value):
            return Film(film.width, film.height, film.frames, value, film.layers)
        case ("frames", number):
            return Film(film.width, film.height, number, film.background, film.layers)
        case ("size", width, height):
            return Film(width, height, film.frames, film.background, film.layers)
        case ("ripple out" | "ripple in", _, _):
            return _with_layers(film, [_rippled(layer, edit) for layer in film.layers])
        case _:
            place = _place_of(film, edit[1])
            layers = film.layers
            layers[place] = _layer_behind(layers[place], edit)
            return _with_layers(film, layers)


def _with_layers(film, layers):
    """Return the film with other layers."""
    return Film(film.width, film.height, film.frames, film.background, layers)


def _place_of(film, name):
    """Return the index of the layer with the name."""
    for place, layer in enumerate(film.layers):
        if layer[0] == name:
            return place
    raise UnknownLayer(name)


def _exchanged(items, first, last, others):
    """Return a tuple with its items from first up to last replaced by others."""
    if not is_number(last, 0, len(items)) or not is_number(first, 0, last):
        raise BadEdit()
    return items[:first] + others + items[last:]


def _rippled(layer, edit):
    """Return a layer behind a ripple."""
    word, first, second = edit
    if word == "ripple out":
        return layer[:4] + (rippled_out(layer[4], first, second),)
    return layer[:4] + (rippled_in(layer[4], first, second),)


def _layer_behind(layer, edit):
    """Return a layer behind an edit that names it."""
    name, box, moves, what, clips = layer
    match edit:
        case ("moves", _, first, last, points):
            return (name, box, _exchanged(moves, first, last, points), what, clips)
        case ("box", _, other):
            return (name, other, moves, what, clips)
        case ("what", _, other):
            return (name, box, moves, other, clips)
        case _:
            return (name, box, moves, what, _clips_behind(clips, edit))


def _clips_behind(clips, edit):
    """Return the clips of a layer behind an edit that changes them."""
    match edit:
        case ("clips", _, first, last, others):
            return _exchanged(clips, first, last, others)
        case ("cut", _, frame):
            return cut_at(clips, frame)
        case ("join", _, place):
            return join_at(clips, place)
        case ("move", _, place, frames):
            return moved_by(clips, place, frames)
        case ("trim", _, place, start, length):
            return with_span(clips, place, start, length)
        case ("lift", _, first, last):
            return lifted(clips, first, last)
        case _:
            return placed(clips, edit[2])


def _inverse_alone(before, behind, edit):
    """Return the edit that leads back, for an edit that is no "all", from the films before and behind it."""
    match edit:
        case ("layers", first, last, items):
            return ("layers", first, first + len(items), tuple(before.layers[first:last]))
        case ("background", _):
            return ("background", before.background)
        case ("frames", _):
            return ("frames", before.frames)
        case ("size", _, _):
            return ("size", before.width, before.height)
        case ("ripple out" | "ripple in", _, _):
            pairs = list(zip(before.layers, behind.layers))
            return ("all", tuple([_clips_back(layer, changed) for layer, changed in pairs]))
        case _:
            place = _place_of(before, edit[1])
            return _layer_back(before.layers[place], behind.layers[place], edit)


def _clips_back(before, behind):
    """Return the edit that gives a layer all its clips back."""
    return ("clips", before[0], 0, len(behind[4]), before[4])


def _layer_back(before, behind, edit):
    """Return the edit that leads back from an edit that names a layer, from the layers before and behind it."""
    name, box, moves, what, clips = before
    match edit:
        case ("clips", _, first, last, items):
            return ("clips", name, first, first + len(items), clips[first:last])
        case ("moves", _, first, last, items):
            return ("moves", name, first, first + len(items), moves[first:last])
        case ("box", _, _):
            return ("box", name, box)
        case ("what", _, _):
            return ("what", name, what)
        case _:
            return _clips_back(before, behind)
