"""Tempo maps: ticks of musical time and frames of sound, converted exactly."""

from math import lcm

from everyblock.errors import BadTempo
from everyblock.numbers import are_counts

ENTRIES_MOST = 16
TICK_MOST = 1000000
NUMERATOR_MOST = 1000
DENOMINATOR_MOST = 100


def check_tempo(tempo):
    """Returns None, or raises BadTempo for the first thing that is wrong."""
    if not 1 <= len(tempo) <= ENTRIES_MOST:
        raise BadTempo()
    tick_least = tick_most = 0
    for index, entry in enumerate(tempo):
        if not is_entry(entry, tick_least, tick_most):
            raise BadTempo(index)
        tick_least = entry[0] + 1
        tick_most = TICK_MOST


def is_entry(entry, tick_least, tick_most):
    """Tells whether this is an entry with a tick from tick_least to tick_most."""
    return are_counts(entry, ((tick_least, tick_most), (1, NUMERATOR_MOST), (1, DENOMINATOR_MOST)))


def frame_of(tempo, tick):
    """Returns the frame of a tick."""
    return frames_of(tempo, [tick])[0]


def frames_of(tempo, ticks):
    """Returns the list of the frames of some ticks."""
    parts = parts_of_frame(tempo)
    rows = stretches(tempo, parts)
    return [parts_before(rows, tick) // parts for tick in ticks]


def parts_before(rows, tick):
    """Returns how many parts of a frame lie before a tick. The rows are those of stretches."""
    total = 0
    for begin, before, each in rows:
        if begin <= tick:
            total = before + (tick - begin) * each
    return total


def tick_at(tempo, frame):
    """Returns the first tick whose frame is not before this frame."""
    parts = parts_of_frame(tempo)
    goal = frame * parts
    tick = 0
    for begin, before, each in stretches(tempo, parts):
        if before < goal:
            # The quotient is rounded up: rounded down it would be a tick before the frame.
            tick = begin - (before - goal) // each
    return tick


def parts_of_frame(tempo):
    """Returns a number of equal parts of a frame, such that each tick lasts whole parts."""
    # Whole parts can be summed up without rounding, so only the sum is rounded.
    parts = 1
    for entry in tempo:
        parts = lcm(parts, entry[2])
    return parts


def stretches(tempo, parts):
    """Returns for each entry its tick, the parts before it, and the parts of each tick from there on."""
    rows = []
    tick = before = each = 0
    for begin, numerator, denominator in tempo:
        before += (begin - tick) * each
        tick = begin
        each = numerator * parts // denominator
        rows.append((tick, before, each))
    return rows
