"""The errors of the program: a base class, and one class for each kind of failure."""


class SoundError(ValueError):
    """`word` names the kind of the failure, `place` tells where it is."""

    def __init__(self, word, place=None):
        # The message leaves the place out: a refused value may be nested too deeply to be shown.
        ValueError.__init__(self, word)
        self.word = word
        self.place = place


class BadTempo(SoundError):
    def __init__(self, place=None):
        SoundError.__init__(self, "BadTempo", place)


class BadNote(SoundError):
    def __init__(self, place=None):
        SoundError.__init__(self, "BadNote", place)


class BadClip(SoundError):
    def __init__(self, place=None):
        SoundError.__init__(self, "BadClip", place)


class BadPoint(SoundError):
    def __init__(self, place=None):
        SoundError.__init__(self, "BadPoint", place)


class BadLine(SoundError):
    def __init__(self, place=None):
        SoundError.__init__(self, "BadLine", place)


class DuplicateNode(SoundError):
    def __init__(self, place=None):
        SoundError.__init__(self, "DuplicateNode", place)


class UnknownNode(SoundError):
    def __init__(self, place=None):
        SoundError.__init__(self, "UnknownNode", place)


class BadLineEnd(SoundError):
    def __init__(self, place=None):
        SoundError.__init__(self, "BadLineEnd", place)


class DuplicateLine(SoundError):
    def __init__(self, place=None):
        SoundError.__init__(self, "DuplicateLine", place)


class OneOutput(SoundError):
    def __init__(self, place=None):
        SoundError.__init__(self, "OneOutput", place)


class Ring(SoundError):
    def __init__(self, place=None):
        SoundError.__init__(self, "Ring", place)


class BadInstrument(SoundError):
    def __init__(self, place=None):
        SoundError.__init__(self, "BadInstrument", place)


class BadVoices(SoundError):
    def __init__(self, place=None):
        SoundError.__init__(self, "BadVoices", place)


class BadFrame(SoundError):
    def __init__(self, place=None):
        SoundError.__init__(self, "BadFrame", place)


class BadEffect(SoundError):
    def __init__(self, place=None):
        SoundError.__init__(self, "BadEffect", place)


class BadState(SoundError):
    def __init__(self, place=None):
        SoundError.__init__(self, "BadState", place)


class BadTrack(SoundError):
    def __init__(self, place=None):
        SoundError.__init__(self, "BadTrack", place)


class DuplicateTrack(SoundError):
    def __init__(self, place=None):
        SoundError.__init__(self, "DuplicateTrack", place)


class UnknownTrack(SoundError):
    def __init__(self, place=None):
        SoundError.__init__(self, "UnknownTrack", place)


class BadNode(SoundError):
    def __init__(self, place=None):
        SoundError.__init__(self, "BadNode", place)


class BadEdit(SoundError):
    def __init__(self, place=None):
        SoundError.__init__(self, "BadEdit", place)


class NothingToUndo(SoundError):
    def __init__(self, place=None):
        SoundError.__init__(self, "NothingToUndo", place)


class NothingToRedo(SoundError):
    def __init__(self, place=None):
        SoundError.__init__(self, "NothingToRedo", place)


class BadCount(SoundError):
    def __init__(self, place=None):
        SoundError.__init__(self, "BadCount", place)
