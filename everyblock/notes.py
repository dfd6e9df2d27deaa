"""Notes, clips that repeat notes, and the events that notes become in frames."""

from everyblock.errors import BadClip, BadNote
from everyblock.numbers import are_counts, is_count, is_tuple
from everyblock.tempo import frames_of

# From the least to the greatest: start, length, pitch and strength of a note; at, period and times of a clip.
NOTE_RANGES = ((0, 100000), (1, 100000), (0, 127), (1, 127))
CLIP_RANGES = ((0, 100000), (1, 100000), (1, 100))
NOTES_MOST = 64


def check_note(note, at=None):
    """Returns None, or raises BadNote with the place at if this is not a note."""
    if not are_counts(note, NOTE_RANGES):
        raise BadNote(at)


def check_clip(clip):
    """Returns None, or raises BadClip or BadNote for the first thing that is wrong."""
    if not is_tuple(clip, 4, 4):
        raise BadClip()
    for place, (least, most) in enumerate(CLIP_RANGES):
        if not is_count(clip[place], least, most):
            raise BadClip(place)
    notes = clip[3]
    if not is_tuple(notes, 0, NOTES_MOST):
        raise BadClip(3)
    for index, note in enumerate(notes):
        check_note(note, index)


def notes_of(clips):
    """Returns the notes of all turns of the clips, each with the tick at which it begins as its start."""
    played = []
    for at, period, times, notes in clips:
        for turn in range(times):
            begin = at + turn * period
            played.extend([(begin + start, length, pitch, strength) for start, length, pitch, strength in notes])
    return played


def event_of(tempo, note):
    """Returns the event of a note."""
    return events_in_turn(tempo, [note])[0]


def events_of(tempo, clips):
    """Returns the events of the clips, ascending by start; those of equal starts as notes_of has them."""
    return sorted(events_in_turn(tempo, notes_of(clips)), key=lambda event: event[0])


def events_in_turn(tempo, notes):
    """Returns the events of the notes in the order of the notes."""
    starts = frames_of(tempo, [note[0] for note in notes])
    ends = frames_of(tempo, [note[0] + note[1] for note in notes])
    return [(start, end, note[2], note[3]) for start, end, note in zip(starts, ends, notes)]
