"""Players: a project that is played from any frame on, while it is edited."""

from everyblock.edits import first_change
from everyblock.engine import Engine
from everyblock.errors import BadCount, BadFrame
from everyblock.history import History
from everyblock.numbers import is_count, is_from_zero

EVERY_MOST = 100000


class Player:
    """Plays a history's present project, and keeps states of its engine to go on from."""

    def __init__(self, project, every):
        if not is_count(every, 1, EVERY_MOST):
            raise BadCount()
        self._every = every
        self._history = History(project)
        self._engine = Engine(project)
        # The states at the frames of the checkpoints.
        self._states = {0: self._engine.state()}

    def project(self):
        """Returns the present project."""
        return self._history.present

    def frame(self):
        """Returns the frame that comes next."""
        return self._engine.frame

    def kept(self):
        """Returns the frames of the checkpoints, ascending."""
        return sorted(self._states)

    def counts(self):
        """Returns how many edits can be undone, and how many can be redone."""
        return self._history.counts()

    def play(self, count):
        """Returns the samples at the next frames, count of them; raises BadCount if this is no count."""
        if not is_from_zero(count):
            raise BadCount()
        return self._go_on(self.frame() + count)

    def seek(self, frame):
        """Goes to a frame; raises BadFrame if this is none."""
        if not is_from_zero(frame):
            raise BadFrame()
        last = self._last_kept(frame)
        if not last <= self.frame() <= frame:
            self._engine.restore(last, self._states[last])
        self._go_on(frame)

    def forget(self):
        """Drops all checkpoints but the one at the frame 0."""
        self._states = {0: self._states[0]}

    def edit(self, edit):
        """Does an edit without leaving the present frame; raises what the history raises."""
        before = self.project()
        self._history.edit(edit)
        self._change(before)

    def undo(self):
        """Takes back the last edit without leaving the present frame; raises what the history raises."""
        before = self.project()
        self._history.undo()
        self._change(before)

    def redo(self):
        """Does an undone edit again without leaving the present frame; raises what the history raises."""
        before = self.project()
        self._history.redo()
        self._change(before)

    def _change(self, before):
        """Goes on with the present project, which has come in place of the one before."""
        frame = self.frame()
        change = first_change(before, self.project())
        engine = Engine(self.project())
        states = {at: self._states[at] for at in self._states if change is None or at <= change}
        # The projects may differ from the frame 0 on, and then a state at rest has another form.
        states[0] = engine.state()
        self._engine = engine
        self._states = states
        last = self._last_kept(frame)
        engine.restore(last, states[last])
        self._go_on(frame)

    def _last_kept(self, frame):
        """Returns the frame of the last checkpoint that is not behind this frame."""
        return max([at for at in self._states if at <= frame])

    def _go_on(self, goal):
        """Returns the samples up to a frame, and keeps a checkpoint wherever one is due on the way."""
        given = []
        while self.frame() < goal:
            due = self.frame() - self.frame() % self._every + self._every
            given.extend(self._engine.process(min(due, goal) - self.frame()))
            if self.frame() == due:
                self._states[due] = self._engine.state()
        return given
