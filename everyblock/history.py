"""Histories: a project with its edits, which can be undone and redone."""

from everyblock.edits import done
from everyblock.errors import NothingToRedo, NothingToUndo


class History:
    """Keeps the projects themselves: they share what an edit leaves as it was, and none of them ever changes."""

    def __init__(self, project):
        self._now = project
        self._before = []
        self._undone = []

    @property
    def present(self):
        """The present project."""
        return self._now

    def counts(self):
        """Returns how many edits can be undone, and how many can be redone."""
        return len(self._before), len(self._undone)

    def edit(self, edit):
        """Does an edit; raises what done raises."""
        behind = done(self._now, edit)
        self._before.append(self._now)
        self._now = behind
        self._undone = []

    def undo(self):
        """Takes back the last edit that was not undone; raises NothingToUndo if there is none."""
        if not self._before:
            raise NothingToUndo()
        self._undone.append(self._now)
        self._now = self._before.pop()

    def redo(self):
        """Does the edit again that was undone last; raises NothingToRedo if there is none."""
        if not self._undone:
            raise NothingToRedo()
        self._before.append(self._now)
        self._now = self._undone.pop()
