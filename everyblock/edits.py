"""Edits of projects, the edits that lead back, and the first frame that an edit can change."""

from everyblock.errors import BadEdit
from everyblock.numbers import is_count
from everyblock.project import Project

# How many items an edit of each word has.
ITEMS = {
    "notes": 6, "clips": 5, "points": 5, "lines": 4, "nodes": 4, "tracks": 4,
    "tempo": 2, "what": 3, "voices": 3, "instrument": 3, "all": 2,
}
# The words of the edits that replace items of a list.
SPANS = ("notes", "clips", "points", "lines", "nodes", "tracks")
# The words of the edits whose last item is checked with the project only.
UNCHECKED = ("what", "voices", "instrument")
# Where in a track stands what an edit of this word changes.
TRACK_PLACES = {"instrument": 1, "voices": 2, "clips": 3, "notes": 3}


def done(project, edit):
    """Returns the project behind the edit."""
    check_form(edit)
    return step(project, edit)[0]


def inverse(project, edit):
    """Returns the edit that leads back from the project behind the edit."""
    check_form(edit)
    return step(project, edit)[1]


def check_form(edit):
    """Returns None, or raises BadEdit if this does not have the form of an edit."""
    if not has_form(edit):
        raise BadEdit()


def has_form(edit):
    """Tells whether this has the form of an edit, whatever it is done on."""
    if not isinstance(edit, tuple) or len(edit) == 0 or not isinstance(edit[0], str):
        return False
    word = edit[0]
    if len(edit) != ITEMS.get(word):
        return False
    if word not in UNCHECKED and not isinstance(edit[-1], tuple):
        return False
    return word != "all" or all([has_form(one) for one in edit[1]])


def step(project, edit):
    """Returns the project behind an edit of the right form, and the edit that leads back."""
    word = edit[0]
    if word == "all":
        return steps(project, edit[1])
    old = value_of(project, edit)
    if word not in SPANS:
        return with_value(project, edit, edit[-1]), edit[:-1] + (old,)
    first, last, items = edit[-3:]
    if not is_count(first, 0, len(old)) or not is_count(last, first, len(old)):
        raise BadEdit()
    back = edit[:-3] + (first, first + len(items), old[first:last])
    return with_value(project, edit, old[:first] + items + old[last:]), back


def steps(project, edits):
    """Returns the project behind some edits, and the edit that leads back over all of them."""
    backs = []
    for edit in edits:
        project, back = step(project, edit)
        backs.append(back)
    return project, ("all", tuple(backs[::-1]))


def value_of(project, edit):
    """Returns what stands where the edit changes something; a tuple if it replaces items."""
    word = edit[0]
    if word in TRACK_PLACES:
        part = project.track(edit[1])[TRACK_PLACES[word]]
        return notes_at(part, edit[2]) if word == "notes" else part
    if word == "points":
        return points_of(project.node(edit[1])[1])
    if word == "what":
        return project.node(edit[1])[1]
    return tuple(lists_of(project)[word])


def notes_at(clips, index):
    """Returns the notes of the clip with this index."""
    if not is_count(index, 0, len(clips) - 1):
        raise BadEdit()
    return clips[index][3]


def points_of(what):
    """Returns the points of a gain."""
    if what[0] != "gain":
        raise BadEdit()
    return what[1]


def lists_of(project):
    """Returns what a project holds, by the words of the edits that change it as a whole."""
    return {"tempo": project.tempo, "tracks": project.tracks, "nodes": project.nodes, "lines": project.lines}


def with_value(project, edit, value):
    """Returns the project with this value where the edit changes something."""
    word = edit[0]
    lists = lists_of(project)
    if word in TRACK_PLACES:
        lists["tracks"] = [changed_track(track, edit, value) for track in lists["tracks"]]
    elif word == "points":
        lists["nodes"] = [changed_node(node, edit[1], ("gain", value)) for node in lists["nodes"]]
    elif word == "what":
        lists["nodes"] = [changed_node(node, edit[1], value) for node in lists["nodes"]]
    else:
        lists[word] = list(value)
    return Project(lists["tempo"], lists["tracks"], lists["nodes"], lists["lines"])


def changed_track(track, edit, value):
    """Returns a track with this value where the edit changes something, or as it is if the edit names another one."""
    if track[0] != edit[1]:
        return track
    if edit[0] == "notes":
        clips = track[3]
        value = with_item(clips, edit[2], with_item(clips[edit[2]], 3, value))
    return with_item(track, TRACK_PLACES[edit[0]], value)


def changed_node(node, name, what):
    """Returns the node that becomes this if it has this name, otherwise the node as it is."""
    return (name, what) if node[0] == name else node


def with_item(row, index, value):
    """Returns a tuple with another item at this index."""
    return row[:index] + (value,) + row[index + 1:]


def first_change(first, second):
    """Returns the first frame at which two projects can sound differently, or None if there is none."""
    if outline(first) != outline(second):
        return 0
    frames = []
    for track in first.tracks:
        frames.extend(event_changes(first.events(track[0]), second.events(track[0])))
    for name, what in first.nodes:
        if what[0] == "gain":
            frames.extend(point_changes(first.in_frames(name)[1], second.in_frames(name)[1]))
    return min(frames, default=None)


def outline(project):
    """Returns all of a project that counts from the frame 0 on: what differs here may sound differently there."""
    nodes = [(name, what[:1] if what[0] == "gain" else what) for name, what in project.nodes]
    return [track[:3] for track in project.tracks], nodes, project.lines


def event_changes(events, others):
    """Returns the frames at which two lists of events make a difference; one of them is the first such frame."""
    frames = []
    for one, other in zip(events, others):
        if (one[0], one[2:]) != (other[0], other[2:]):
            return frames + [min(one[0], other[0])]
        if one[1] != other[1]:
            frames.append(min(one[1], other[1]))
    both = min(len(events), len(others))
    # At most one of the two lists has events behind the places that both have.
    rest = events[both:] + others[both:]
    return frames + [event[0] for event in rest[:1]]


def point_changes(points, others):
    """Returns a list of the frame from which on two curves of points in frames differ; none if they are equal."""
    for at in range(max(len(points), len(others))):
        # Behind the end of one of them its slice is empty.
        if points[at:at + 1] != others[at:at + 1]:
            return [points[at - 1][0] if at > 0 else 0]
    return []
