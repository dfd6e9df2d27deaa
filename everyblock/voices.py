"""Voices: when each event of a track sounds, and which one gives way to a later one."""

from everyblock.errors import BadVoices
from everyblock.numbers import is_count

VOICES_MOST = 16


def check_voices(most):
    """Returns None, or raises BadVoices if this is not a number of voices."""
    if not is_count(most, 1, VOICES_MOST):
        raise BadVoices()


def spans_of(events, most, release):
    """Returns for each event its start and the frame behind its span; the events ascend by start."""
    behind = []
    # The indexes of the voices that sound, in the order of the row: the eldest one is the first.
    sounding = []
    for index, event in enumerate(events):
        start = event[0]
        sounding = [voice for voice in sounding if behind[voice] > start]
        if sounding and len(sounding) >= most:
            eldest = sounding.pop(0)
            behind[eldest] = start
        sounding.append(index)
        behind.append(event[1] + release)
    return [(event[0], frame) for event, frame in zip(events, behind)]


def sounding_at(spans, frame):
    """Returns the ascending list of the indexes of the spans that contain the frame."""
    return [index for index, (start, behind) in enumerate(spans) if start <= frame < behind]
