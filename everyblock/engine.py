"""Engines: the sound of a project block by block, from any state on."""

from everyblock.effects import effect_of
from everyblock.lines import DelayLine
from everyblock.net import arrivals, is_effect, made_up, order_of, outputs_of, ways_to
from everyblock.numbers import added
from everyblock.source import source_of


class Engine:
    """Processes a project; `frame` is the frame of the next sample."""

    def __init__(self, project):
        nodes = project.nodes
        lines = project.lines
        tempo = project.tempo
        specs = {name: what for name, what in nodes}
        self.frame = 0
        self._output = outputs_of(nodes)[0]
        self._order = order_of(nodes, lines)
        self._reached = arrivals(nodes, lines)
        self._waits = [DelayLine(delay) for delay in made_up(nodes, lines)]
        self._ways = ways_to(nodes, lines, self._waits)
        self._sources = {name: source_of(project, what[1]) for name, what in nodes if what[0] == "track"}
        # In the order of the net, which is that of their states.
        self._effects = {name: effect_of(specs[name], tempo) for name in self._order if is_effect(specs[name])}

    def process(self, count):
        """Returns the next samples, count of them, and goes on by as many frames."""
        sounds = {}
        for name in self._order:
            sounds[name] = self._sound_of(name, sounds, count)
        self.frame += count
        return sounds[self._output]

    def _sound_of(self, name, sounds, count):
        """Returns the next samples of a node, from those of the nodes before it."""
        if name in self._sources:
            return self._sources[name].block(self.frame, count)
        coming = added([wait.process(sounds[first]) for first, wait in self._ways[name]], count)
        if name in self._effects:
            return self._effects[name].process(coming, self.frame - self._reached[name])
        return coming

    def state(self):
        """Returns the states of the effects, in the order of the net, and those of the lines, in their order."""
        effects = tuple([effect.state() for effect in self._effects.values()])
        return effects, tuple([wait.state() for wait in self._waits])

    def restore(self, frame, state):
        """Goes on from a frame with the state that an engine of an equal project had there."""
        effects, waits = state
        for effect, its_state in zip(list(self._effects.values()), effects):
            effect.restore(its_state)
        for wait, its_state in zip(self._waits, waits):
            wait.restore(its_state)
        self.frame = frame
