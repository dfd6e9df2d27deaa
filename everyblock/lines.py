"""Lines: samples that come out some frames after they came in."""

from everyblock.errors import BadState
from everyblock.numbers import are_samples


class DelayLine:
    """Gives each sample as many frames later as it was made for."""

    def __init__(self, frames):
        self.waiting = (0,) * frames

    def process(self, samples):
        """Returns the list of what comes out while the samples come in."""
        row = [*self.waiting, *samples]
        self.waiting = tuple(row[len(samples):])
        return row[:len(samples)]

    def state(self):
        """Returns the samples that are on the way, the oldest one first."""
        return self.waiting

    def restore(self, state):
        """Goes on from the state; raises BadState if it is none of this line."""
        check_state(state, len(self.waiting))
        self.waiting = state


def check_state(state, many):
    """Returns None, or raises BadState if the state is not a tuple of that many samples."""
    if not are_samples(state, many, many):
        raise BadState()
