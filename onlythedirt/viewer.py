"""Viewers, which work out anew only what the edits can have changed (points 4.10 and 4.11)."""

from onlythedirt.dirt import dirt_of
from onlythedirt.errors import BadFrame
from onlythedirt.history import History
from onlythedirt.pictures import is_number
from onlythedirt.plain import values_at
from onlythedirt.regions import points_of, union


class Viewer:
    """A film that is edited, with the pictures of the frames that were shown."""

    def __init__(self, film):
        self._history = History(film)
        self._worked = 0
        # The rows of each frame that is kept, and its dirt.
        self._pictures = {}
        self._dirt = {}

    def film(self):
        """Return the present film."""
        return self._history.present

    def show(self, frame):
        """Return the rows of a frame of the present film."""
        film = self._history.present
        if not is_number(frame, 0, film.frames - 1):
            raise BadFrame(frame)
        if frame not in self._pictures:
            self._pictures[frame] = [[0] * film.width for _ in range(film.height)]
            self._dirt[frame] = [(0, 0, film.width, film.height)]
        self._work_out(frame)
        return [list(row) for row in self._pictures[frame]]

    def dirt(self, frame):
        """Return the dirt of a frame that is kept."""
        if not is_number(frame, 0, self._history.present.frames - 1) or frame not in self._dirt:
            raise BadFrame(frame)
        return list(self._dirt[frame])

    def kept(self):
        """Return the frames whose pictures are kept, in ascending order."""
        return sorted(self._pictures)

    def worked(self):
        """Return how many points were worked out so far."""
        return self._worked

    def forget(self):
        """Drop all pictures."""
        self._pictures = {}
        self._dirt = {}

    def counts(self):
        """Return how many edits can be undone, and how many can be redone."""
        return self._history.counts()

    def edit(self, edit):
        """Do an edit."""
        before = self._history.present
        self._history.edit(edit)
        self._soil(before)

    def undo(self):
        """Take back the last edit that was not undone."""
        before = self._history.present
        self._history.undo()
        self._soil(before)

    def redo(self):
        """Do the edit again that was undone last."""
        before = self._history.present
        self._history.redo()
        self._soil(before)

    def _work_out(self, frame):
        """Work out the dirt of a frame that is kept."""
        points = points_of(self._dirt[frame])
        values = values_at(self._history.present, frame, points)
        rows = self._pictures[frame]
        for (x, y), value in zip(points, values):
            rows[y][x] = value
        self._worked += len(points)
        self._dirt[frame] = []

    def _soil(self, before):
        """Drop the pictures that the present film has no use for, and add to the dirt of the others."""
        behind = self._history.present
        if (before.width, before.height) != (behind.width, behind.height):
            self.forget()
        self._pictures = {frame: rows for frame, rows in self._pictures.items() if frame < behind.frames}
        self._dirt = {
            frame: union(self._dirt[frame], dirt_of(before, behind, frame)) for frame in self._pictures
        }
