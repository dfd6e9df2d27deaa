"""What the points of the document tell, word by word, with fractions and without any care for speed."""

import math
from fractions import Fraction

TOP_STEPS = (11430, 12110, 12830, 13593, 14402, 15258, 16165, 17127, 18145, 19224, 20367, 21578)


def told_cut(number):
    """The sample that is nearest to a number (point 1.1)."""
    if number > 8388607:
        return 8388607
    if number < -8388608:
        return -8388608
    return number


def told_through(sample, gain):
    """A sample through a gain (point 1.1)."""
    return told_cut(math.floor(Fraction(sample * gain + 32768, 65536)))


def exact_frame(tempo, tick):
    """The frame of a tick, summed up exactly."""
    total = Fraction(0)
    for index, (begin, numerator, denominator) in enumerate(tempo):
        end = tempo[index + 1][0] if index + 1 < len(tempo) else tick
        total += max(0, min(end, tick) - begin) * Fraction(numerator, denominator)
    return math.floor(total)


def told_events(tempo, clips):
    """The events as point 1.7 tells them, with the order of each one written out."""
    rows = []
    for clip, (at, period, times, notes) in enumerate(clips):
        for turn in range(times):
            for place, (start, length, pitch, strength) in enumerate(notes):
                tick = at + turn * period + start
                event = (exact_frame(tempo, tick), exact_frame(tempo, tick + length), pitch, strength)
                rows.append((event[0], clip, turn, place, event))
    return [row[-1] for row in sorted(rows)]


def told_value(points, frame):
    """The value as point 1.10 tells it, word by word."""
    if frame < points[0][0]:
        return points[0][1]
    last = max(index for index, (at, _) in enumerate(points) if at <= frame)
    f, v = points[last]
    if last == len(points) - 1:
        return v
    g, w = points[last + 1]
    return v + math.floor(Fraction((w - v) * (frame - f), g - f))


def told_sample(instrument, event, frame):
    """The sample as points 2.4 to 2.7 tell it, word by word."""
    word, attack, release = instrument[:3]
    start, end, pitch, strength = event
    if not start <= frame <= end + release - 1:
        return 0
    step = TOP_STEPS[pitch % 12] // 2 ** (10 - pitch // 12)
    phase = (step * (frame - start)) % 65536
    if word == "saw":
        at_phase = 256 * (phase - 32768)
    elif word == "square":
        at_phase = 8388607 if phase < 32768 else -8388608
    else:
        at_phase = instrument[3][phase * len(instrument[3]) // 65536]
    t = frame - start
    a = 65536 * min(t + 1, attack + 1) // (attack + 1)
    k = frame - end
    r = 65536 if k < 0 else 65536 * max(release - k, 0) // (release + 1)
    level = a * r // 65536
    loud = at_phase * strength // 127
    return told_through(loud, level)


def told_spans(events, most, release):
    """The spans as points 2.8 and 2.9 tell them, each one as the list of its frames."""
    frames = []
    for event in events:
        sounding = [index for index, span in enumerate(frames) if event[0] in span]
        if len(sounding) == most:
            eldest = min(sounding, key=lambda index: (events[index][0], index))
            frames[eldest] = [frame for frame in frames[eldest] if frame < event[0]]
        frames.append(list(range(event[0], event[1] + release)))
    return [(event[0], event[0] + len(span)) for event, span in zip(events, frames)]


def told_track(events, instrument, voices, frame):
    """The sample of a track at a frame (point 2.10)."""
    return told_row(events, instrument, voices, frame, 1)[0]


def told_row(events, instrument, voices, first, count):
    """The samples of a track at these frames (point 2.10)."""
    spans = told_spans(events, voices, instrument[2])
    row = []
    for frame in range(first, first + count):
        sounding = [event for event, (start, behind) in zip(events, spans) if start <= frame < behind]
        row.append(told_cut(sum(told_sample(instrument, event, frame) for event in sounding)))
    return row


def told_gain(points, samples, moment):
    """What a gain with these points in frames gives (point 4.3)."""
    return [told_through(sample, told_value(points, moment + at if moment + at > 0 else 0))
            for at, sample in enumerate(samples)]


def told_delay(frames, feedback, own, samples):
    """What a delay gives, and all that went into its line (points 4.4 and 4.7)."""
    given, went = [], [0] * frames
    for x in samples:
        d = went[-frames]
        given.append(told_cut(x + told_through(d, own)))
        went.append(told_cut(x + told_through(d, feedback)))
    return given, went


def told_smooth(k, samples):
    """What a smoothing gives (point 4.5)."""
    given, y = [], 0
    for x in samples:
        if x < y:
            y -= math.ceil(Fraction(y - x, 2 ** k))
        else:
            y += math.ceil(Fraction(x - y, 2 ** k))
        given.append(y)
    return given


def told_ahead(frames, ceiling, samples):
    """What an effect that looks ahead gives (point 4.6)."""
    given = []
    for f in range(len(samples)):
        came = [samples[at] for at in range(f - frames, f + 1) if at >= 0]
        sample = samples[f - frames] if f >= frames else 0
        p = max(abs(value) for value in came)
        given.append(sample if p <= ceiling else told_through(sample, ceiling * 65536 // p))
    return given


def told_order(nodes, lines):
    """The order of a net (point 5.3)."""
    order = []
    while True:
        ready = [name for name, _ in nodes if name not in order
                 and all(first in order for first, second in lines if second == name)]
        if not ready:
            return order
        order.append(ready[0])


def told_latency(nodes, name):
    """The latency of the node with this name (point 5.4)."""
    what = dict(nodes)[name]
    return what[1] if what[0] == "ahead" else 0


def told_arrival(nodes, lines, name):
    """The frame at which the moment 0 reaches a node (point 5.5)."""
    return max([told_leaving(nodes, lines, first) for first, second in lines if second == name], default=0)


def told_leaving(nodes, lines, name):
    """The frame at which the moment 0 leaves a node (point 5.5)."""
    return told_arrival(nodes, lines, name) + told_latency(nodes, name)


def told_delays(nodes, lines):
    """The delays of all lines (point 5.5)."""
    return [told_arrival(nodes, lines, second) - told_leaving(nodes, lines, first) for first, second in lines]


def told_sounds(tempo, tracks, nodes, lines, count):
    """The first samples of each node, as point 5.7 tells them."""
    sounds = {}
    for name in told_order(nodes, lines):
        what = dict(nodes)[name]
        if what[0] == "track":
            _, instrument, voices, clips = [track for track in tracks if track[0] == what[1]][0]
            sounds[name] = told_row(told_events(tempo, clips), instrument, voices, 0, count)
            continue
        coming = [0] * count
        for (first, second), delay in zip(lines, told_delays(nodes, lines)):
            if second == name:
                coming = [coming[at] + (sounds[first][at - delay] if at >= delay else 0) for at in range(count)]
        coming = [told_cut(total) for total in coming]
        sounds[name] = told_effect(what, tempo, coming, -told_arrival(nodes, lines, name))
    return sounds


def told_effect(what, tempo, samples, moment):
    """What an effect gives from rest on (part 4); a bus and the output sound as what reaches them."""
    if what[0] == "gain":
        return told_gain([(exact_frame(tempo, tick), value) for tick, value in what[1]], samples, moment)
    if what[0] == "delay":
        return told_delay(*what[1:], samples)[0]
    if what[0] == "smooth":
        return told_smooth(what[1], samples)
    if what[0] == "ahead":
        return told_ahead(*what[1:], samples)
    return list(samples)


def told_sound(tempo, tracks, nodes, lines, count):
    """The first samples of the output (point 5.7)."""
    output = [name for name, what in nodes if what == ("output",)][0]
    return told_sounds(tempo, tracks, nodes, lines, count)[output]


def told_change(first, second):
    """The first frame at which two projects, as their parts, can sound differently (point 6.4)."""
    def apart_from_points(nodes):
        return [(name, "gain" if what[0] == "gain" else what) for name, what in nodes]

    def item(row, place):
        return row[place] if place < len(row) else None

    if [track[:3] for track in first[1]] != [track[:3] for track in second[1]]:
        return 0
    if apart_from_points(first[2]) != apart_from_points(second[2]) or first[3] != second[3]:
        return 0
    frames = []
    for one, other in zip(first[1], second[1]):
        events, others = told_events(first[0], one[3]), told_events(second[0], other[3])
        for place in range(max(len(events), len(others))):
            pair = [event for event in (item(events, place), item(others, place)) if event is not None]
            if len(pair) < 2 or pair[0][0] != pair[1][0] or pair[0][2:] != pair[1][2:]:
                frames.append(min(event[0] for event in pair))
                break
            if pair[0][1] != pair[1][1]:
                frames.append(min(event[1] for event in pair))
    for (_, one), (_, other) in zip(first[2], second[2]):
        if one[0] != "gain":
            continue
        points = [(exact_frame(first[0], tick), value) for tick, value in one[1]]
        others = [(exact_frame(second[0], tick), value) for tick, value in other[1]]
        for place in range(max(len(points), len(others))):
            if item(points, place) != item(others, place):
                frames.append(points[place - 1][0] if place else 0)
                break
    return min(frames) if frames else None


class ToldPlayer:
    """The frames and the checkpoints of a player, frame by frame (points 6.7 to 6.9)."""

    def __init__(self, every):
        self.every = every
        self.frame = 0
        self.kept = [0]

    def come_to(self, frame):
        while self.frame < frame:
            self.frame += 1
            if self.frame % self.every == 0 and self.frame not in self.kept:
                self.kept = sorted(self.kept + [self.frame])

    def play(self, count):
        self.come_to(self.frame + count)

    def seek(self, frame):
        on_the_way = [at for at in self.kept if self.frame <= at <= frame and at != self.frame or at == frame]
        if self.frame > frame or on_the_way:
            self.frame = max(at for at in self.kept if at <= frame)
        self.come_to(frame)

    def forget(self):
        self.kept = [0]

    def change(self, first_frame):
        frame = self.frame
        if first_frame is not None:
            self.kept = [at for at in self.kept if at <= first_frame]
        self.frame = max(at for at in self.kept if at <= frame)
        self.come_to(frame)
