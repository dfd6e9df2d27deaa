"""The net of nodes and lines: its order, and the delays that let arrive together what belongs together."""

from heapq import heappop, heappush

from everyblock.effects import latency_of
from everyblock.errors import BadLineEnd, DuplicateLine, DuplicateNode, OneOutput, Ring, UnknownNode

OUTPUT = ("output",)


def check_net(nodes, lines):
    """Returns None, or raises the error of the first thing that is wrong."""
    check_names(nodes)
    if len(outputs_of(nodes)) != 1:
        raise OneOutput()
    check_lines(nodes, lines)
    if len(order_of(nodes, lines)) < len(nodes):
        raise Ring()


def check_names(nodes):
    """Returns None, or raises DuplicateNode for the first name that a node before it has."""
    seen = set()
    for name, _ in nodes:
        if name in seen:
            raise DuplicateNode(name)
        seen.add(name)


def check_lines(nodes, lines):
    """Returns None, or raises the error of the first line that does not lead where a line may lead."""
    words = {name: what[0] for name, what in nodes}
    seen = set()
    for index, (first, second) in enumerate(lines):
        for name in (first, second):
            # What is not even a string may be a list, which no dict can be asked for.
            if not isinstance(name, str) or name not in words:
                raise UnknownNode(name)
        if words[first] == "output":
            raise BadLineEnd(first)
        if words[second] == "track":
            raise BadLineEnd(second)
        if (first, second) in seen:
            raise DuplicateLine(index)
        seen.add((first, second))


def is_effect(what):
    """Tells whether this is what an effect is, and neither a track's node nor a bus nor an output."""
    return what[0] not in ("track", "bus", "output")


def outputs_of(nodes):
    """Returns the names of the outputs."""
    return [name for name, what in nodes if what == OUTPUT]


def order_of(nodes, lines):
    """Returns the names of the nodes, each one behind its inputs; those on rings and behind rings are left out."""
    names = [name for name, _ in nodes]
    places = {}
    for place, name in enumerate(names):
        places.setdefault(name, place)
    missing = {name: 0 for name in names}
    followers = {name: [] for name in names}
    for first, second in lines:
        if second in missing:
            missing[second] += 1
        if first in followers and second in followers:
            followers[first].append(second)
    # The places ascend, so the list is a heap: its least place is always that of the first node that is ready.
    ready = [place for name, place in places.items() if missing[name] == 0]
    order = []
    while ready:
        name = names[heappop(ready)]
        order.append(name)
        for follower in followers[name]:
            missing[follower] -= 1
            if missing[follower] == 0:
                heappush(ready, places[follower])
    return order


def inputs_of(lines, name):
    """Returns the names of the inputs of a node, in the order of the lines."""
    return [first for first, second in lines if second == name]


def ways_to(nodes, lines, things):
    """Returns for each node its inputs, each one with the thing of its line; there is one thing for each line."""
    ways = {name: [] for name, _ in nodes}
    for (first, second), thing in zip(lines, things):
        ways[second].append((first, thing))
    return ways


def coming(nodes, lines, delays):
    """Returns for each node the frames at which the moment 0 comes from its inputs, if it waits for all of them."""
    latencies = {name: latency_of(what) for name, what in nodes}
    ways = ways_to(nodes, lines, delays)
    frames = {}
    leaving = {}
    for name in order_of(nodes, lines):
        frames[name] = [leaving[first] + delay for first, delay in ways[name]]
        leaving[name] = max(frames[name], default=0) + latencies[name]
    return frames


def arrivals(nodes, lines):
    """Returns for each node the frame at which the moment 0 reaches it."""
    frames = coming(nodes, lines, [0] * len(lines))
    return {name: max(frames[name], default=0) for name in frames}


def made_up(nodes, lines):
    """Returns for each line by how many frames it is delayed."""
    reached = arrivals(nodes, lines)
    leaving = {name: reached[name] + latency_of(what) for name, what in nodes}
    return [reached[second] - leaving[first] for first, second in lines]


def whole_latency(nodes, lines):
    """Returns the frame at which the moment 0 leaves the output."""
    # An output has no latency of its own.
    return arrivals(nodes, lines)[outputs_of(nodes)[0]]


def arrive_by(nodes, lines, delays):
    """Returns for each node the frame at which the moment 0 reaches it by these delays, or None if they do not fit."""
    if min(delays, default=0) < 0:
        return None
    frames = coming(nodes, lines, delays)
    if any([min(frames[name]) < max(frames[name]) for name in frames if frames[name]]):
        return None
    return {name: max(frames[name], default=0) for name in frames}
