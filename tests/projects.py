"""Projects for the tests: the one of the document's beginning, and random ones of all kinds."""

from everyblock.project import Project

TEMPO = [(0, 1, 1)]
FLAT = ("steps", 0, 0, (8000,))
OUT = ("out", ("output",))
# The example at the document's beginning.
TRACK = ("t", FLAT, 4, ((0, 8, 1, ((0, 3, 60, 127),)),))
NODES = [("a", ("track", "t")), ("b", ("ahead", 2, 4000)), OUT]
LINES = [("a", "b"), ("a", "out"), ("b", "out")]


def example():
    return Project(TEMPO, [TRACK], NODES, LINES)


def flat_track(name, level, *notes):
    """A track of one clip, which has this level at the strength 127 of its notes (start, length)."""
    played = tuple((start, length, 60, 127) for start, length in notes)
    return (name, ("steps", 0, 0, (level,)), 16, ((0, 1, 1, played),))


def parts_of(project):
    return project.tempo, project.tracks, project.nodes, project.lines


def with_part(parts, index, value):
    """The parts of a project with another tempo map (0), other tracks (1), nodes (2) or lines (3)."""
    return parts[:index] + (value,) + parts[index + 1:]


def some_names(rng, many):
    names = []
    while len(names) < many:
        name = "".join(rng.choice("abyz") for _ in range(rng.randint(1, 8)))
        if name not in names:
            names.append(name)
    return names


def random_tempo(rng):
    ticks = [0] + sorted(rng.sample(range(1, 30), rng.randint(0, 3)))
    return [(tick, rng.randint(1, 5), rng.randint(1, 4)) for tick in ticks]


def random_instrument(rng):
    word = rng.choice(("saw", "square", "steps"))
    ramps = (rng.choice((0, 1, 7)), rng.choice((0, 2, 9)))
    loud = rng.choice((9, 90000, 8388607))
    row = tuple(rng.randint(-loud, loud) for _ in range(rng.randint(1, 5)))
    return (word,) + ramps + ((row,) if word == "steps" else ())


def random_note(rng):
    return (rng.randint(0, 20), rng.randint(1, 12), rng.randint(0, 127), rng.choice((1, 64, 127)))


def random_clip(rng):
    notes = tuple(random_note(rng) for _ in range(rng.choice((0, 1, 2, 3, 4))))
    return (rng.randint(0, 15), rng.randint(1, 20), rng.randint(1, 3), notes)


def random_track(rng, name):
    clips = tuple(random_clip(rng) for _ in range(rng.choice((0, 1, 1, 2, 3))))
    return (name, random_instrument(rng), rng.choice((1, 2, 3, 16)), clips)


def random_points(rng):
    ticks = sorted(rng.sample(range(40), rng.randint(1, 4)))
    return tuple((tick, rng.choice((0, 30000, 65536, 262144))) for tick in ticks)


def random_effect(rng):
    return rng.choice((
        ("pass",), ("bus",), ("smooth", rng.randint(1, 8)), ("gain", random_points(rng)), ("gain", random_points(rng)),
        ("delay", rng.randint(1, 9), rng.randint(0, 70000), rng.randint(0, 70000)),
        ("ahead", rng.randint(1, 9), rng.choice((1, 5000, 8388607))), ("ahead", rng.randint(1, 9), 8388607),
    ))


def random_parts(rng):
    """A tempo map, tracks, nodes and lines that make a project."""
    tracks = [random_track(rng, name) for name in some_names(rng, rng.choice((0, 1, 2, 2, 3)))]
    names = some_names(rng, rng.choice((1, 3, 4, 5, 6, 7)))
    nodes = []
    for name in names[:-1]:
        playing = tracks and (not nodes or rng.random() < 0.35)
        nodes.append((name, ("track", rng.choice(tracks)[0]) if playing else random_effect(rng)))
    nodes.append((names[-1], ("output",)))
    lines = []
    for second in range(len(nodes)):
        for first in range(second):
            if nodes[second][1][0] != "track" and rng.random() < 0.7:
                lines.append((nodes[first][0], nodes[second][0]))
    rng.shuffle(nodes)
    rng.shuffle(lines)
    return random_tempo(rng), tracks, nodes, lines


def random_span(rng, many):
    first = rng.randint(0, many)
    return first, rng.randint(first, many)


def random_edit(rng, project, deep=3):
    """An edit of the right form; it may fail, as it may take away what is still named."""
    word = rng.choice(("notes", "notes", "notes", "clips", "points", "points", "lines", "nodes", "tracks", "tempo",
                       "what", "voices", "instrument", "all"))
    track = rng.choice(project.tracks or [TRACK])
    node = rng.choice(project.nodes)
    other = random_parts(rng)
    if word == "notes":
        index = rng.randrange(len(track[3]) or 1)
        notes = track[3][index][3] if track[3] else ()
        return (word, track[0], index) + random_span(rng, len(notes)) + (
            tuple(random_note(rng) for _ in range(rng.randint(0, 2))),)
    if word == "clips":
        return (word, track[0]) + random_span(rng, len(track[3])) + ((random_clip(rng),) * rng.randint(0, 2),)
    if word == "points":
        points = node[1][1] if node[1][0] == "gain" else ()
        return (word, node[0]) + random_span(rng, len(points)) + (random_points(rng)[:rng.randint(0, 2)],)
    if word in ("lines", "nodes", "tracks"):
        row = {"lines": project.lines, "nodes": project.nodes, "tracks": project.tracks}[word]
        new = {"lines": other[3], "nodes": other[2], "tracks": other[1]}[word]
        return (word,) + random_span(rng, len(row)) + (tuple(rng.sample(row + new, rng.randint(0, min(2, len(row))))),)
    if word == "tempo":
        return (word, tuple(random_tempo(rng)))
    if word == "what":
        return (word, node[0], rng.choice((random_effect(rng), node[1])))
    if word == "voices":
        return (word, track[0], rng.randint(1, 4))
    if word == "instrument":
        return (word, track[0], random_instrument(rng))
    return (word, tuple(random_edit(rng, project, deep - 1) for _ in range(rng.randint(0, 2) if deep else 0)))


def random_project(rng):
    return Project(*random_parts(rng))
