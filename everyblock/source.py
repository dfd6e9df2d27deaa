"""The samples of a track: the sum of its voices, worked out anew at each frame from the events alone."""

from everyblock.instruments import voice_sample
from everyblock.numbers import cut
from everyblock.voices import spans_of


class Source:
    """A track that is asked for many blocks: when its events sound is worked out only once."""

    def __init__(self, events, instrument, voices):
        self._instrument = instrument
        spans = spans_of(events, voices, instrument[2])
        self._rows = [(start, end, event) for event, (start, end) in zip(events, spans)]

    def block(self, first, count):
        """Returns the samples at the frames from first on, count of them."""
        behind = first + count
        sums = [0] * count
        for start, end, event in [row for row in self._rows if row[0] < behind and row[1] > first]:
            for frame in range(max(start, first), min(end, behind)):
                sums[frame - first] += voice_sample(self._instrument, event, frame)
        return [cut(total) for total in sums]


def source_of(project, name):
    """Returns the source of the track of a project with this name."""
    track = project.track(name)
    return Source(project.events(name), track[1], track[2])


def source_samples(events, instrument, voices, first, count):
    """Returns the samples of a track with these events at the frames from first on, count of them."""
    return Source(events, instrument, voices).block(first, count)


def source_sample(events, instrument, voices, frame):
    """Returns the sample of a track with these events at one frame."""
    return source_samples(events, instrument, voices, frame, 1)[0]


def track_samples(project, name, first, count):
    """Returns the samples of the track of a project with this name, as source_samples does."""
    return source_of(project, name).block(first, count)


def sample_at(project, name, frame):
    """Returns the sample of the track of a project with this name at one frame."""
    return track_samples(project, name, frame, 1)[0]
