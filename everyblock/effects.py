"""Effects: what becomes of samples, one in each frame, however the frames are divided into blocks."""

from everyblock.curves import check_points, in_frames, value_at
from everyblock.errors import BadEffect
from everyblock.lines import check_state
from everyblock.numbers import GAIN_MOST, GAIN_ONE, SAMPLE_MOST, are_counts, cut, is_tuple, through

DELAY_MOST = 64
SMOOTH_MOST = 8
AHEAD_MOST = 32


def check_effect(spec):
    """Returns None, or raises BadEffect if this is not an effect, or the error of the points of a gain."""
    if not has_form(spec):
        raise BadEffect(spec)
    if spec[0] == "gain":
        check_points(spec[1])


def has_form(spec):
    """Tells whether this is an effect, whatever the points of a gain are."""
    if not isinstance(spec, tuple) or len(spec) == 0:
        return False
    word = spec[0]
    rest = spec[1:]
    if word == "pass":
        return is_tuple(rest, 0, 0)
    if word == "gain":
        return is_tuple(rest, 1, 1)
    if word == "delay":
        return are_counts(rest, ((1, DELAY_MOST), (0, GAIN_MOST), (0, GAIN_MOST)))
    if word == "smooth":
        return are_counts(rest, ((1, SMOOTH_MOST),))
    if word == "ahead":
        return are_counts(rest, ((1, AHEAD_MOST), (1, SAMPLE_MOST)))
    return False


def latency_of(spec):
    """Returns by how many frames the samples of an effect come out later."""
    return spec[1] if spec[0] == "ahead" else 0


def effect_in_frames(spec, tempo):
    """Returns an effect, or what else a node is; a gain with a tuple of its points in frames."""
    if spec[0] == "gain":
        return ("gain", tuple(in_frames(tempo, spec[1])))
    return spec


def effect_of(spec, tempo):
    """Returns a new object at rest for an effect."""
    word = spec[0]
    if word == "gain":
        return Gain(in_frames(tempo, spec[1]))
    if word == "delay":
        return Delay(spec[1], spec[2], spec[3])
    if word == "smooth":
        return Smoothing(spec[1])
    if word == "ahead":
        return Ahead(spec[1], spec[2])
    return Passing()


class Passing:
    """Gives what comes in."""

    def process(self, samples, moment):
        """Returns the list of what comes out while the samples come in, the first one at this moment."""
        return list(samples)

    def state(self):
        """Returns the empty state."""
        return ()

    def restore(self, state):
        """Raises BadState if the state is not the empty one."""
        check_state(state, 0)


class Gain:
    """Takes each sample through the value of a curve, whose points are in frames, at its moment."""

    def __init__(self, points):
        self.points = points

    def process(self, samples, moment):
        """Returns the list of what comes out while the samples come in, the first one at this moment."""
        return [through(sample, value_at(self.points, max(moment + at, 0))) for at, sample in enumerate(samples)]

    def state(self):
        """Returns the empty state."""
        return ()

    def restore(self, state):
        """Raises BadState if the state is not the empty one."""
        check_state(state, 0)


class Delay:
    """Adds what came in some frames ago, and what went round since."""

    def __init__(self, frames, feedback, own):
        self.feedback = feedback
        self.own = own
        self.waiting = (0,) * frames

    def process(self, samples, moment):
        """Returns the list of what comes out while the samples come in, the first one at this moment."""
        row = list(self.waiting)
        given = []
        for at, sample in enumerate(samples):
            # The line has at least one frame, so what comes out of it now went in before.
            old = row[at]
            given.append(cut(sample + through(old, self.own)))
            row.append(cut(sample + through(old, self.feedback)))
        self.waiting = tuple(row[len(samples):])
        return given

    def state(self):
        """Returns what is in the line, the oldest sample first."""
        return self.waiting

    def restore(self, state):
        """Goes on from the state; raises BadState if it is none of this effect."""
        check_state(state, len(self.waiting))
        self.waiting = state


class Smoothing:
    """Has a value that follows what comes in, each time by a part of the difference."""

    def __init__(self, k):
        self.k = k
        self.level = 0

    def process(self, samples, moment):
        """Returns the list of what comes out while the samples come in, the first one at this moment."""
        given = []
        for sample in samples:
            self.level += part_of(sample - self.level, self.k)
            given.append(self.level)
        return given

    def state(self):
        """Returns the value as a tuple."""
        return (self.level,)

    def restore(self, state):
        """Goes on from the state; raises BadState if it is none of this effect."""
        check_state(state, 1)
        self.level = state[0]


class Ahead:
    """Gives samples some frames later, turned down in time for what is too loud behind them."""

    def __init__(self, frames, ceiling):
        self.frames = frames
        self.ceiling = ceiling
        self.waiting = (0,) * frames

    def process(self, samples, moment):
        """Returns the list of what comes out while the samples come in, the first one at this moment."""
        row = [*self.waiting, *samples]
        self.waiting = tuple(row[len(samples):])
        return [turned_down(row[at:at + self.frames + 1], self.ceiling) for at in range(len(samples))]

    def state(self):
        """Returns the samples that came in last, the oldest one first."""
        return self.waiting

    def restore(self, state):
        """Goes on from the state; raises BadState if it is none of this effect."""
        check_state(state, self.frames)
        self.waiting = state


def part_of(difference, k):
    """Returns the difference divided by 2 to the power of k, rounded away from 0."""
    # A shift rounds down, which is away from 0 only below 0.
    if difference < 0:
        return difference >> k
    return -(-difference >> k)


def turned_down(window, ceiling):
    """Returns the first sample of a window, turned down if any of the window is louder than the ceiling."""
    loudest = max([abs(sample) for sample in window])
    if loudest <= ceiling:
        return window[0]
    return through(window[0], ceiling * GAIN_ONE // loudest)
