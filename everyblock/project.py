"""Projects: tempo map, tracks, nodes and lines, checked once and kept from then on."""

from everyblock.effects import check_effect, effect_in_frames
from everyblock.errors import BadNode, BadTrack, DuplicateTrack, UnknownNode, UnknownTrack
from everyblock.instruments import check_instrument
from everyblock.net import check_net, is_effect
from everyblock.notes import check_clip, events_of
from everyblock.numbers import is_name, is_tuple
from everyblock.tempo import check_tempo
from everyblock.voices import check_voices


class Project:
    """What is played. It never changes: an edit makes another one."""

    def __init__(self, tempo, tracks, nodes, lines):
        # The lists may be changed by whoever passed them, their items can't: the checks let only tuples pass.
        self._tempo = list(tempo)
        self._tracks = list(tracks)
        self._nodes = list(nodes)
        self._lines = list(lines)
        check_tempo(self._tempo)
        check_tracks(self._tracks)
        check_nodes(self._nodes, [track[0] for track in self._tracks])
        check_net(self._nodes, self._lines)

    @property
    def tempo(self):
        """The entries of the tempo map, in a new list."""
        return list(self._tempo)

    @property
    def tracks(self):
        """The tracks, in a new list."""
        return list(self._tracks)

    @property
    def nodes(self):
        """The nodes, in a new list."""
        return list(self._nodes)

    @property
    def lines(self):
        """The lines, in a new list."""
        return list(self._lines)

    def track(self, name):
        """Returns the track with this name; raises UnknownTrack if there is none."""
        for track in self._tracks:
            if track[0] == name:
                return track
        raise UnknownTrack(name)

    def node(self, name):
        """Returns the node with this name; raises UnknownNode if there is none."""
        for node in self._nodes:
            if node[0] == name:
                return node
        raise UnknownNode(name)

    def events(self, name):
        """Returns the events of the track with this name; raises UnknownTrack if there is none."""
        return events_of(self._tempo, self.track(name)[3])

    def in_frames(self, name):
        """Returns what the node with this name is, a gain with its points in frames."""
        return effect_in_frames(self.node(name)[1], self._tempo)


def same_project(first, second):
    """Tells whether two projects are equal in all that they hold."""
    if first.tempo != second.tempo or first.tracks != second.tracks:
        return False
    return first.nodes == second.nodes and first.lines == second.lines


def check_tracks(tracks):
    """Returns None, or raises the error of the first thing that is wrong with the tracks."""
    seen = set()
    for index, track in enumerate(tracks):
        if not is_track(track):
            raise BadTrack(index)
        name, instrument, voices, clips = track
        check_instrument(instrument)
        check_voices(voices)
        for clip in clips:
            check_clip(clip)
        if name in seen:
            raise DuplicateTrack(name)
        seen.add(name)


def is_track(track):
    """Tells whether this has the form of a track, whatever is in its instrument and its clips."""
    if not is_tuple(track, 4, 4) or not is_name(track[0]):
        return False
    return isinstance(track[1], tuple) and isinstance(track[3], tuple)


def check_nodes(nodes, tracks):
    """Returns None, or raises the error of the first node that is wrong; tracks is the list of the tracks' names."""
    for index, node in enumerate(nodes):
        if not is_node(node):
            raise BadNode(index)
        what = node[1]
        if what[0] == "track":
            if what[1] not in tracks:
                raise UnknownTrack(what[1])
        elif is_effect(what):
            check_effect(what)


def is_node(node):
    """Tells whether this has the form of a node; what may be an effect may have any items."""
    if not is_tuple(node, 2, 2) or not is_name(node[0]):
        return False
    what = node[1]
    if not isinstance(what, tuple) or len(what) == 0:
        return False
    if what[0] == "track":
        return len(what) == 2
    return is_effect(what) or len(what) == 1
