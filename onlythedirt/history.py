"""Undo and redo (point 3.15)."""

from onlythedirt.edits import done
from onlythedirt.errors import NothingToRedo, NothingToUndo


class History:
    """A present film, with the films that undo and redo lead to."""

    def __init__(self, film):
        self._present = film
        self._past = []
        self._undone = []

    @property
    def present(self):
        """The present film."""
        return self._present

    def counts(self):
        """Return how many edits can be undone, and how many can be redone."""
        return (len(self._past), len(self._undone))

    def edit(self, edit):
        """Do an edit."""
        behind = done(self._present, edit)
        self._past.append(self._present)
        self._present = behind
        self._undone = []

    def undo(self):
        """Take back the last edit that was not undone."""
        if not self._past:
            raise NothingToUndo()
        self._undone.append(self._present)
        self._present = self._past.pop()

    def redo(self):
        """Do the edit again that was undone last."""
        if not self._undone:
            raise NothingToRedo()
        self._past.append(self._present)
        self._present = self._undone.pop()
