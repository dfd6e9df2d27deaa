"""Instruments: the sample of a single voice at a frame."""

from everyblock.errors import BadInstrument
from everyblock.numbers import GAIN_ONE, SAMPLE_LEAST, SAMPLE_MOST, are_samples, is_count, through

TOP_STEPS = (11430, 12110, 12830, 13593, 14402, 15258, 16165, 17127, 18145, 19224, 20367, 21578)
PHASES = 65536
RAMP_MOST = 1000
ROW_MOST = 64
STRENGTH_MOST = 127


def check_instrument(instrument):
    """Returns None, or raises BadInstrument for the first thing that is wrong."""
    if len(instrument) < 3:
        raise BadInstrument()
    word = instrument[0]
    if word not in ("saw", "square", "steps"):
        raise BadInstrument(0)
    if len(instrument) != (4 if word == "steps" else 3):
        raise BadInstrument()
    for place in (1, 2):
        if not is_count(instrument[place], 0, RAMP_MOST):
            raise BadInstrument(place)
    if word == "steps" and not are_samples(instrument[3], 1, ROW_MOST):
        raise BadInstrument(3)


def phase_step(pitch):
    """Returns by how much the phase of a pitch grows in each frame."""
    top = TOP_STEPS[pitch % 12]
    octaves = 10 - pitch // 12
    # Pitches beyond the range raise no error either: there is nothing to divide by above the top octave.
    return top >> octaves if octaves > 0 else top << -octaves


def wave(instrument, phase):
    """Returns the sample of the instrument's wave at a phase."""
    word = instrument[0]
    if word == "saw":
        return 256 * (phase - PHASES // 2)
    if word == "square":
        return SAMPLE_MOST if phase < PHASES // 2 else SAMPLE_LEAST
    row = instrument[3]
    return row[phase * len(row) // PHASES]


def attack_level(instrument, since):
    """Returns the level of the attack that many frames behind the start of an event."""
    attack = instrument[1]
    return GAIN_ONE * min(since + 1, attack + 1) // (attack + 1)


def release_level(instrument, since):
    """Returns the level of the release that many frames behind the end of an event; below 0 is before the end."""
    if since < 0:
        return GAIN_ONE
    release = instrument[2]
    return GAIN_ONE * max(release - since, 0) // (release + 1)


def voice_sample(instrument, event, frame):
    """Returns the sample of the voice of an event at a frame."""
    start, end, pitch, strength = event
    if not start <= frame < end + instrument[2]:
        return 0
    phase = phase_step(pitch) * (frame - start) % PHASES
    level = attack_level(instrument, frame - start) * release_level(instrument, frame - end) // GAIN_ONE
    return through(wave(instrument, phase) * strength // STRENGTH_MOST, level)
