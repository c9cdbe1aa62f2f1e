"""The errors of the program, each with its word and its place."""


class FilmError(ValueError):
    """The base class of every error of the program."""

    def __init__(self, word, place=None):
        # The message leaves the place out: Python refuses to write some values, such as very long integers.
        ValueError.__init__(self, word)
        self.word = word
        self.place = place


class BadLine(FilmError):
    """A line of a text does not have its form."""

    def __init__(self, place=None):
        FilmError.__init__(self, "BadLine", place)


class BadFilm(FilmError):
    """A number of a film, or the number of its layers, is not allowed."""

    def __init__(self, place=None):
        FilmError.__init__(self, "BadFilm", place)


class BadLayer(FilmError):
    """A layer, its name or its box is not allowed."""

    def __init__(self, place=None):
        FilmError.__init__(self, "BadLayer", place)


class DuplicateLayer(FilmError):
    """A layer has the name of a layer before it."""

    def __init__(self, place=None):
        FilmError.__init__(self, "DuplicateLayer", place)


class UnknownLayer(FilmError):
    """No layer has the name."""

    def __init__(self, place=None):
        FilmError.__init__(self, "UnknownLayer", place)


class BadFrame(FilmError):
    """It is not a frame that can be asked for."""

    def __init__(self, place=None):
        FilmError.__init__(self, "BadFrame", place)


class BadClip(FilmError):
    """A clip, or the list of the clips, is not allowed."""

    def __init__(self, place=None):
        FilmError.__init__(self, "BadClip", place)


class BadCut(FilmError):
    """No clip can be cut at the frame."""

    def __init__(self, place=None):
        FilmError.__init__(self, "BadCut", place)


class BadEdit(FilmError):
    """An edit does not have a form that is allowed."""

    def __init__(self, place=None):
        FilmError.__init__(self, "BadEdit", place)


class NothingToUndo(FilmError):
    """No edit can be undone."""

    def __init__(self, place=None):
        FilmError.__init__(self, "NothingToUndo", place)


class NothingToRedo(FilmError):
    """No edit can be redone."""

    def __init__(self, place=None):
        FilmError.__init__(self, "NothingToRedo", place)


class BadPaint(FilmError):
    """It is not a paint."""

    def __init__(self, place=None):
        FilmError.__init__(self, "BadPaint", place)


class BadPicture(FilmError):
    """It is not a picture."""

    def __init__(self, place=None):
        FilmError.__init__(self, "BadPicture", place)


class BadWhat(FilmError):
    """It is nothing that a layer does."""

    def __init__(self, place=None):
        FilmError.__init__(self, "BadWhat", place)


class BadMoves(FilmError):
    """The moves, or one of them, are not allowed."""

    def __init__(self, place=None):
        FilmError.__init__(self, "BadMoves", place)


class BadJoin(FilmError):
    """The two clips cannot be joined."""

    def __init__(self, place=None):
        FilmError.__init__(self, "BadJoin", place)


class BadPlace(FilmError):
    """The clip cannot have this place."""

    def __init__(self, place=None):
        FilmError.__init__(self, "BadPlace", place)


class BadRectangle(FilmError):
    """It is not a rectangle."""

    def __init__(self, place=None):
        FilmError.__init__(self, "BadRectangle", place)
