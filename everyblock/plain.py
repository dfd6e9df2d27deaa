"""The sound of a project, node by node from the frame 0 on: plainly what the document tells, without blocks."""

from everyblock.effects import effect_of
from everyblock.net import arrivals, is_effect, made_up, order_of, outputs_of, ways_to
from everyblock.numbers import added
from everyblock.source import track_samples


def samples(project, count):
    """Returns the first samples of the sound of a project, count of them."""
    nodes = project.nodes
    lines = project.lines
    specs = {name: what for name, what in nodes}
    reached = arrivals(nodes, lines)
    ways = ways_to(nodes, lines, made_up(nodes, lines))
    sounds = {}
    for name in order_of(nodes, lines):
        coming = added([later(sounds[first], delay) for first, delay in ways[name]], count)
        sounds[name] = sound_of(project, specs[name], coming, reached[name])
    return sounds[outputs_of(nodes)[0]]


def later(sound, delay):
    """Returns a sound some frames later, as many frames of it as before."""
    return ([0] * delay + sound)[:len(sound)]


def sound_of(project, what, coming, reached):
    """Returns the sound of a node that is reached by this sound, and by the moment 0 at this frame."""
    if what[0] == "track":
        return track_samples(project, what[1], 0, len(coming))
    if is_effect(what):
        return effect_of(what, project.tempo).process(coming, -reached)
    return coming
