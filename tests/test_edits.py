"""Points 6.1 to 6.5, and the interface of everyblock.edits."""

import copy
import itertools
import random
import unittest

from checks import NO_INTEGERS, deep, refusal, refused, stand_in, with_item
from projects import (FLAT, LINES, NODES, OUT, TEMPO, TRACK, example, parts_of, random_clip, random_edit, random_parts,
                      random_points, random_project, with_part)
from told import told_change, told_sounds

from everyblock import edits
from everyblock.edits import done, first_change, inverse
from everyblock.engine import Engine
from everyblock.errors import (BadClip, BadEdit, BadEffect, BadInstrument, BadLineEnd, BadNode, BadNote, BadPoint,
                               BadTempo, BadTrack, BadVoices, DuplicateLine, DuplicateNode, DuplicateTrack, OneOutput,
                               Ring, SoundError, UnknownNode, UnknownTrack)
from everyblock.plain import samples
from everyblock.project import Project, same_project

BAD_EDIT = refusal(BadEdit)
NOTES = tuple((at, 1, 60 + at, 127) for at in range(4))
CLIPS = ((0, 8, 1, NOTES), (1, 8, 2, ()), (2, 8, 1, NOTES[:1]))
POINTS = ((0, 10), (4, 20), (8, 30), (9, 40))
WIDE = Project(
    [(0, 3, 2), (5, 1, 1)],
    [TRACK, ("u", ("saw", 1, 2), 3, CLIPS), ("v", FLAT, 1, ())],
    [("a", ("track", "u")), ("g", ("gain", POINTS)), ("h", ("gain", ((3, 7),))), ("b", ("bus",)), OUT],
    [("a", "g"), ("g", "h"), ("h", "out"), ("a", "b")],
)
# For each word: what stands ahead of first and last, the list that is edited, and items that may stand there.
SPANS = (
    (("notes", "u", 0), NOTES, ((7, 1, 1, 1), (0, 100000, 127, 127))),
    (("notes", "u", 1), (), ((7, 1, 1, 1), (0, 100000, 127, 127))),
    (("clips", "u"), CLIPS, ((9, 9, 9, ()), (0, 1, 1, NOTES))),
    (("clips", "v"), (), ((9, 9, 9, ()), (0, 1, 1, NOTES))),
    (("lines",), tuple(WIDE.lines), (("b", "g"), ("b", "h"))),
    (("nodes",), tuple(WIDE.nodes), (("y", ("bus",)), ("z", ("gain", POINTS)))),
    (("tracks",), tuple(WIDE.tracks), (("y", FLAT, 9, CLIPS), ("z", ("square", 0, 0), 1, ()))),
)
# For each other word: what stands ahead of the value, the value that is edited, and another one.
VALUES = (
    (("tempo",), tuple(WIDE.tempo), ((0, 1, 1), (3, 7, 2), (4, 1, 1))),
    (("what", "g"), ("gain", POINTS), ("delay", 3, 4, 5)),
    (("what", "b"), ("bus",), ("gain", ((3, 4),))),
    (("what", "h"), ("gain", ((3, 7),)), ("gain", ((3, 8),))),
    (("what", "a"), ("track", "u"), ("track", "t")),
    (("voices", "u"), 3, 16),
    (("instrument", "u"), ("saw", 1, 2), ("steps", 3, 4, (5, 6))),
)


def value_at(project, ahead):
    """What stands where an edit with these first items changes something."""
    word = ahead[0]
    if word in ("tempo", "lines", "nodes", "tracks"):
        return tuple(getattr(project, word))
    if word in ("what", "points"):
        what = dict(project.nodes)[ahead[1]]
        return what if word == "what" else what[1]
    track = project.track(ahead[1])
    if word == "notes":
        return track[3][ahead[2]][3]
    return track[{"instrument": 1, "voices": 2, "clips": 3}[word]]


def projects_of(project, edit):
    """The projects behind all parts of an edit, one after the other."""
    if edit[0] != "all":
        return [done(project, edit)]
    behind = [project]
    for one in edit[1]:
        behind.append(done(behind[-1], one))
    return behind


class TestInterface(unittest.TestCase):
    def test_functions_stand_in_this_file(self):
        self.assertIs(stand_in(edits, {
            "done": "(project, edit)", "inverse": "(project, edit)", "first_change": "(first, second)",
        }), True)

    def test_the_project_is_not_modified(self):
        rng = random.Random(61)
        for _ in range(200):
            project = random_project(rng)
            before = copy.deepcopy(parts_of(project))
            edit = random_edit(rng, project)
            refused(done, project, edit)
            refused(inverse, project, edit)
            self.assertEqual(parts_of(project), before)


class TestSpans(unittest.TestCase):
    def test_each_span_of_each_word_and_what_leads_back(self):
        tried = 0
        for ahead, old, items in SPANS:
            for first, last in itertools.combinations_with_replacement(range(len(old) + 1), 2):
                for new in ((), items[:1], items):
                    edit = ahead + (first, last, new)
                    expected = old[:first] + new + old[last:]
                    try:
                        found = done(WIDE, edit)
                    except SoundError:
                        # What was taken away is still named somewhere.
                        self.assertIn(ahead[0], ("nodes", "tracks"))
                        continue
                    tried += 1
                    self.assertEqual(value_at(found, ahead), expected)
                    back = ahead + (first, first + len(new), old[first:last])
                    self.assertEqual(inverse(WIDE, edit), back)
                    self.assertTrue(same_project(done(found, back), WIDE))
        self.assertGreater(tried, 100)

    def test_points(self):
        for (first, last), new in (((0, 1), ((1, 5),)), ((1, 1), ((1, 5), (2, 6))), ((4, 4), ((10, 5),)), ((0, 3), ()),
                                   ((0, 4), ((7, 7),)), ((2, 4), ()), ((0, 0), ()), ((1, 3), ((4, 20), (8, 30)))):
            edit = ("points", "g", first, last, new)
            found = done(WIDE, edit)
            self.assertEqual(dict(found.nodes)["g"], ("gain", POINTS[:first] + new + POINTS[last:]))
            self.assertEqual(inverse(WIDE, edit), ("points", "g", first, first + len(new), POINTS[first:last]))
            self.assertTrue(same_project(done(found, inverse(WIDE, edit)), WIDE))

    def test_nothing_else_changes(self):
        found = done(WIDE, ("notes", "u", 2, 0, 1, NOTES[1:]))
        tracks = [TRACK, ("u", ("saw", 1, 2), 3, CLIPS[:2] + ((2, 8, 1, NOTES[1:]),)), ("v", FLAT, 1, ())]
        self.assertEqual(parts_of(found), with_part(parts_of(WIDE), 1, tracks))
        found = done(WIDE, ("points", "h", 0, 1, ((1, 2), (3, 4))))
        nodes = [WIDE.nodes[0], WIDE.nodes[1], ("h", ("gain", ((1, 2), (3, 4)))), WIDE.nodes[3], OUT]
        self.assertEqual(parts_of(found), with_part(parts_of(WIDE), 2, nodes))
        found = done(WIDE, ("lines", 1, 4, (("b", "out"),)))
        self.assertEqual(parts_of(found), with_part(parts_of(WIDE), 3, [("a", "g"), ("b", "out")]))

    def test_tracks_and_nodes_that_nothing_names_may_go(self):
        self.assertEqual([track[0] for track in done(WIDE, ("tracks", 2, 3, ())).tracks], ["t", "u"])
        self.assertEqual([node[0] for node in done(example(), ("all", (
            ("lines", 0, 3, ()), ("nodes", 0, 2, ()), ("tracks", 0, 1, ())))).nodes], ["out"])

    def test_an_edit_that_changes_nothing(self):
        for ahead, old, _ in SPANS:
            for edit in (ahead + (0, 0, ()), ahead + (0, len(old), old)):
                self.assertTrue(same_project(done(WIDE, edit), WIDE))
                self.assertEqual(inverse(WIDE, edit), edit)


class TestValues(unittest.TestCase):
    def test_each_word_and_what_leads_back(self):
        for ahead, old, new in VALUES:
            found = done(WIDE, ahead + (new,))
            self.assertEqual(value_at(found, ahead), new)
            self.assertEqual(inverse(WIDE, ahead + (new,)), ahead + (old,))
            self.assertTrue(same_project(done(found, ahead + (old,)), WIDE))
            self.assertFalse(same_project(found, WIDE))

    def test_an_edit_that_changes_nothing(self):
        for ahead, old, _ in VALUES:
            self.assertTrue(same_project(done(WIDE, ahead + (old,)), WIDE))
            self.assertEqual(inverse(WIDE, ahead + (old,)), ahead + (old,))

    def test_nothing_else_changes(self):
        tracks = WIDE.tracks
        found = done(WIDE, ("voices", "u", 1))
        changed = [tracks[0], with_item(tracks[1], 2, 1), tracks[2]]
        self.assertEqual(parts_of(found), with_part(parts_of(WIDE), 1, changed))
        found = done(WIDE, ("instrument", "t", ("saw", 0, 0)))
        changed = [with_item(TRACK, 1, ("saw", 0, 0))] + tracks[1:]
        self.assertEqual(parts_of(found), with_part(parts_of(WIDE), 1, changed))
        found = done(WIDE, ("what", "b", ("smooth", 1)))
        nodes = WIDE.nodes[:3] + [("b", ("smooth", 1)), OUT]
        self.assertEqual(parts_of(found), with_part(parts_of(WIDE), 2, nodes))
        self.assertEqual(parts_of(done(WIDE, ("tempo", ((0, 1, 1),)))), with_part(parts_of(WIDE), 0, [(0, 1, 1)]))


class TestAll(unittest.TestCase):
    def test_no_edits(self):
        self.assertTrue(same_project(done(WIDE, ("all", ())), WIDE))
        self.assertEqual(inverse(WIDE, ("all", ())), ("all", ()))

    def test_one_after_another(self):
        edit = ("all", (("notes", "t", 0, 0, 1, ()), ("notes", "t", 0, 0, 0, NOTES), ("notes", "t", 0, 1, 3, ())))
        self.assertEqual(value_at(done(WIDE, edit), ("notes", "t", 0)), (NOTES[0], NOTES[3]))
        self.assertEqual(inverse(WIDE, edit), ("all", (
            ("notes", "t", 0, 1, 1, NOTES[1:3]), ("notes", "t", 0, 0, 4, ()), ("notes", "t", 0, 0, 0, TRACK[3][0][3]))))

    def test_each_edit_is_done_on_what_those_before_it_made(self):
        new = ("w", FLAT, 2, ())
        edit = ("all", (("tracks", 3, 3, (new,)), ("clips", "w", 0, 0, CLIPS), ("what", "b", ("gain", POINTS)),
                        ("points", "b", 1, 4, ()), ("nodes", 5, 5, (("n", ("track", "w")),)),
                        ("lines", 4, 4, (("n", "b"),))))
        found = done(WIDE, edit)
        self.assertEqual(found.tracks[3:], [("w", FLAT, 2, CLIPS)])
        self.assertEqual(found.nodes[3:], [("b", ("gain", POINTS[:1])), OUT, ("n", ("track", "w"))])
        self.assertEqual(found.lines[4:], [("n", "b")])
        back = inverse(WIDE, edit)
        self.assertEqual(back, ("all", (
            ("lines", 4, 5, ()), ("nodes", 5, 6, ()), ("points", "b", 1, 1, POINTS[1:]), ("what", "b", ("bus",)),
            ("clips", "w", 0, 3, ()), ("tracks", 3, 4, ()))))
        self.assertTrue(same_project(done(found, back), WIDE))

    def test_nested_20_deep_and_somewhat_deeper(self):
        for many in (20, 30):
            edit, back = ("voices", "t", 9), ("voices", "t", 4)
            for _ in range(many):
                edit, back = ("all", (edit, ("voices", "u", 5))), ("all", (("voices", "u", 5), back))
            found = done(WIDE, edit)
            self.assertEqual([track[2] for track in found.tracks], [9, 5, 1])
            # Only the innermost of all edits changes the voices of `u`.
            expected = ("voices", "t", 4)
            for depth in range(many):
                expected = ("all", (("voices", "u", 5 if depth else 3), expected))
            self.assertEqual(inverse(WIDE, edit), expected)
            self.assertTrue(same_project(done(found, expected), WIDE))

    def test_an_all_within_an_all(self):
        edit = ("all", (("all", (("voices", "t", 1), ("voices", "u", 1))), ("all", ()), ("voices", "t", 2)))
        self.assertEqual(inverse(WIDE, edit), ("all", (
            ("voices", "t", 1), ("all", ()), ("all", (("voices", "u", 3), ("voices", "t", 4))))))


class TestForms(unittest.TestCase):
    def refused(self, edit):
        found = refused(done, WIDE, edit)
        self.assertEqual(refused(inverse, WIDE, edit), found)
        return found

    def test_an_unknown_word(self):
        for word in ("", "note", "clip", "All", "ALL", "frames", "output", None, 0, 1, True, (), [], ["all"], {},
                     ("all",), deep()):
            for rest in ((), ((),), ("t", 4), ("u", 0, 0, ()), (0, 0, ()), ("u", 0, 0, 0, ()), ("u", 0, 0, 0, 0, ())):
                self.assertEqual(self.refused((word,) + rest), BAD_EDIT)

    def test_no_word_at_all(self):
        self.assertEqual(self.refused(()), BAD_EDIT)

    def test_a_wrong_number_of_items(self):
        right = [ahead + (0, 0, ()) for ahead, _, _ in SPANS] + [("points", "g", 0, 0, ()), ("all", ())]
        for edit in right + [ahead + (old,) for ahead, old, _ in VALUES]:
            self.assertFalse(isinstance(refused(done, WIDE, edit), tuple))
            for many in range(1, len(edit)):
                self.assertEqual(self.refused(edit[:many]), BAD_EDIT)
                # The last item is a tuple as before.
                self.assertEqual(self.refused(edit[:many - 1] + edit[-1:]) if many > 1 else BAD_EDIT, BAD_EDIT)
            for more in ((edit[-1],), ((), ()), (0,), (None, None, ())):
                self.assertEqual(self.refused(edit + more), BAD_EDIT)

    def test_a_last_item_that_should_be_a_tuple(self):
        for value in (None, True, 0, "", "tt", [], [(0, 1, 1)], {}):
            for edit in [ahead + (0, 0, value) for ahead, _, _ in SPANS]:
                self.assertEqual(self.refused(edit), BAD_EDIT)
            for edit in (("points", "g", 0, 0, value), ("tempo", value), ("all", value)):
                self.assertEqual(self.refused(edit), BAD_EDIT)

    def test_items_within_all(self):
        good = ("voices", "t", 1)
        for item in (None, True, 0, "", "all", [], list(good), (), ("none",), ("all",), ("all", []), ("tempo", None),
                     ("voices", "t"), ("all", (None,)), ("all", (good, ("all", (good, list(good))))), deep()):
            for row in ((item,), (good, item), (item, good), (good, good, item)):
                self.assertEqual(self.refused(("all", row)), BAD_EDIT)
                self.assertEqual(self.refused(("all", (good, ("all", row), good))), BAD_EDIT)

    def test_the_last_items_of_three_words_are_no_matter_of_form(self):
        for value in (None, True, [], "bus", ["bus"], 0, ()):
            self.assertEqual(self.refused(("what", "b", value)), refusal(BadNode, 3))
        for value in (None, True, [], "4", (4,), (), 0, 17):
            self.assertEqual(self.refused(("voices", "u", value)), refusal(BadVoices))
        for value in (None, True, 0, [], "saw", ["saw", 0, 0]):
            self.assertEqual(self.refused(("instrument", "u", value)), refusal(BadTrack, 1))

    def test_the_form_comes_ahead_of_everything_else(self):
        self.assertEqual(self.refused(("notes", "x", 9, 9, 9, [])), BAD_EDIT)
        self.assertEqual(self.refused(("points", "x", 9, 9)), BAD_EDIT)
        self.assertEqual(self.refused(("all", (("voices", "x", 1), ("voices", "x")))), BAD_EDIT)
        self.assertEqual(self.refused(("all", (("voices", "t", 0), ("all", (("tempo", []),))))), BAD_EDIT)
        self.assertEqual(self.refused(("all", (("all", (("what", "x", ()),)), None))), BAD_EDIT)


class TestErrors(unittest.TestCase):
    refused = TestForms.refused

    def test_names_that_do_not_exist(self):
        for name in ("x", "", "a", "T", None, 0, True, [], ["t"], ("t",), deep()):
            for edit in (("notes", name, 0, 0, 0, ()), ("clips", name, 0, 0, ()), ("voices", name, 1),
                         ("instrument", name, ("saw", 0, 0))):
                error, word, place = self.refused(edit)
                self.assertEqual((error, word), (UnknownTrack, "UnknownTrack"))
                self.assertIs(place, name)
        for name in ("x", "", "t", "OUT", None, 0, True, [], ["a"], ("a",), deep()):
            for edit in (("points", name, 0, 0, ()), ("what", name, ("bus",))):
                error, word, place = self.refused(edit)
                self.assertEqual((error, word), (UnknownNode, "UnknownNode"))
                self.assertIs(place, name)

    def test_names_come_ahead_of_indexes_kinds_and_projects(self):
        self.assertEqual(self.refused(("notes", "x", 9, 9, 8, (None,))), refusal(UnknownTrack, "x"))
        self.assertEqual(self.refused(("clips", "x", True, 0, (None,))), refusal(UnknownTrack, "x"))
        self.assertEqual(self.refused(("points", "x", 9, 9, (None,))), refusal(UnknownNode, "x"))
        self.assertEqual(self.refused(("voices", "x", 0)), refusal(UnknownTrack, "x"))
        self.assertEqual(self.refused(("instrument", "x", None)), refusal(UnknownTrack, "x"))
        self.assertEqual(self.refused(("what", "x", None)), refusal(UnknownNode, "x"))

    def test_a_clip_index_that_is_none(self):
        for index in (-1, 3, 10 ** 30) + NO_INTEGERS:
            self.assertEqual(self.refused(("notes", "u", index, 0, 0, ())), BAD_EDIT)
        for index in (-1, 0, 1):
            self.assertEqual(self.refused(("notes", "v", index, 0, 0, ())), BAD_EDIT)

    def test_a_node_that_is_no_gain(self):
        for name in ("a", "b", "out"):
            self.assertEqual(self.refused(("points", name, 0, 0, POINTS)), BAD_EDIT)
        self.assertEqual(refused(done, example(), ("points", "b", 0, 0, ())), BAD_EDIT)

    def test_indexes_out_of_the_list(self):
        for ahead, old, _ in SPANS + ((("points", "g"), POINTS, ()), (("points", "h"), POINTS[:1], ())):
            many = len(old)
            for first, last in ((-1, 0), (-1, -1), (0, -1), (1, 0), (many, many + 1), (many + 1, many + 1),
                                (many + 1, many), (0, many + 1), (many, 0 if many else -1), (10 ** 30, 10 ** 30)):
                self.assertEqual(self.refused(ahead + (first, last, ())), BAD_EDIT)
            for value in NO_INTEGERS:
                self.assertEqual(self.refused(ahead + (value, many, ())), BAD_EDIT)
                self.assertEqual(self.refused(ahead + (0, value, ())), BAD_EDIT)
                self.assertEqual(self.refused(ahead + (value, value, ())), BAD_EDIT)

    def test_indexes_and_kinds_come_ahead_of_the_project(self):
        self.assertEqual(self.refused(("notes", "u", 3, 0, 0, (None,))), BAD_EDIT)
        self.assertEqual(self.refused(("notes", "u", 0, 0, 5, (None,))), BAD_EDIT)
        self.assertEqual(self.refused(("clips", "u", 2, 1, (None,))), BAD_EDIT)
        self.assertEqual(self.refused(("points", "b", 0, 0, (None,))), BAD_EDIT)
        self.assertEqual(self.refused(("points", "g", 0, 5, (None,))), BAD_EDIT)
        for word in ("lines", "nodes", "tracks"):
            self.assertEqual(self.refused((word, 0, 9, (None,))), BAD_EDIT)

    def test_the_first_error_of_the_project_behind_the_edit(self):
        line, node = ("a", "b"), ("b", ("bus",))
        for edit, error in (
            (("tempo", ()), refusal(BadTempo)), (("tempo", ((0, 1, 1), None)), refusal(BadTempo, 1)),
            (("tracks", 1, 1, (None,)), refusal(BadTrack, 1)),
            (("tracks", 3, 3, (TRACK,)), refusal(DuplicateTrack, "t")),
            (("tracks", 1, 2, ()), refusal(UnknownTrack, "u")),
            (("instrument", "v", ("saw", 0)), refusal(BadInstrument)),
            (("instrument", "v", ("saw", 0, -1)), refusal(BadInstrument, 2)),
            (("voices", "v", 0), refusal(BadVoices)), (("voices", "v", True), refusal(BadVoices)),
            (("clips", "u", 1, 1, ((0, 8, 0, ()),)), refusal(BadClip, 2)),
            (("clips", "v", 0, 0, (None,)), refusal(BadClip)),
            (("notes", "u", 0, 3, 3, (None,)), refusal(BadNote, 3)),
            (("notes", "u", 0, 0, 4, NOTES * 17), refusal(BadClip, 3)),
            (("nodes", 1, 1, (None,)), refusal(BadNode, 1)), (("nodes", 0, 0, (node,)), refusal(DuplicateNode, "b")),
            (("nodes", 4, 5, ()), refusal(OneOutput)), (("nodes", 3, 4, ()), refusal(UnknownNode, "b")),
            (("what", "b", ()), refusal(BadNode, 3)), (("what", "b", ("track", "x")), refusal(UnknownTrack, "x")),
            (("what", "b", ("none",)), refusal(BadEffect, ("none",))),
            (("what", "b", ("output",)), refusal(OneOutput)),
            (("what", "b", ("track", "t")), refusal(BadLineEnd, "b")),
            (("what", "b", ("gain", ())), refusal(BadPoint)),
            (("points", "g", 0, 4, ()), refusal(BadPoint)), (("points", "g", 1, 1, ((0, 1),)), refusal(BadPoint, 1)),
            (("points", "g", 4, 4, (None,)), refusal(BadPoint, 4)),
            (("lines", 4, 4, (line,)), refusal(DuplicateLine, 4)),
            (("lines", 0, 0, (("x", "b"),)), refusal(UnknownNode, "x")),
            (("lines", 0, 0, (("h", "g"),)), refusal(Ring)),
        ):
            self.assertEqual(self.refused(edit), error)

    def test_the_project_is_checked_from_its_beginning(self):
        edit = ("tracks", 0, 3, (with_item(TRACK, 2, 0), None))
        self.assertEqual(self.refused(edit), refusal(BadVoices))
        self.assertEqual(self.refused(("tracks", 0, 3, ())), refusal(UnknownTrack, "u"))
        self.assertEqual(self.refused(("nodes", 0, 5, (("b", ("bus",)), ("b", ("smooth", 0))))),
                         refusal(BadEffect, ("smooth", 0)))

    def test_within_all_each_edit_raises_what_it_would_raise_alone(self):
        good = ("voices", "t", 1)
        for edit, error in ((("voices", "x", 1), refusal(UnknownTrack, "x")), (("points", "b", 0, 0, ()), BAD_EDIT),
                            (("notes", "u", 9, 0, 0, ()), BAD_EDIT), (("tempo", ()), refusal(BadTempo)),
                            (("lines", 0, 0, (("h", "g"),)), refusal(Ring))):
            for row in ((edit,), (good, edit), (good, good, edit, good), (edit, ("voices", "y", 1)),
                        (good, ("all", (good, edit)), good)):
                self.assertEqual(self.refused(("all", row)), error)

    def test_within_all_each_edit_has_to_leave_a_project(self):
        swap = (("tracks", 1, 2, ()), ("what", "a", ("track", "t")))
        self.assertEqual(self.refused(("all", swap)), refusal(UnknownTrack, "u"))
        self.assertEqual([track[0] for track in done(WIDE, ("all", swap[::-1])).tracks], ["t", "v"])

    def test_within_all_the_edits_see_what_those_before_them_made(self):
        self.assertEqual(self.refused(("all", (("clips", "u", 0, 2, ()), ("notes", "u", 1, 0, 0, ())))), BAD_EDIT)
        self.assertEqual(self.refused(("all", (("tracks", 2, 3, ()), ("voices", "v", 2)))), refusal(UnknownTrack, "v"))
        self.assertEqual(self.refused(("all", (("what", "g", ("bus",)), ("points", "g", 0, 0, ())))), BAD_EDIT)


class TestInverse(unittest.TestCase):
    def test_random_edits(self):
        rng = random.Random(63)
        words = set()
        for _ in range(600):
            project = random_project(rng)
            for _ in range(3):
                edit = random_edit(rng, project)
                found = refused(done, project, edit)
                back = refused(inverse, project, edit)
                if isinstance(found, tuple):
                    self.assertEqual(back, found)
                    continue
                words.add(edit[0])
                self.assertEqual(back[0], edit[0])
                self.assertTrue(same_project(done(found, back), project))
                self.assertEqual(parts_of(projects_of(project, edit)[-1]), parts_of(found))
                self.assertTrue(same_project(done(project, inverse(found, back)), found))
                project = found
        self.assertEqual(len(words), 11)


def with_notes(*notes, tempo=TEMPO):
    """A project of one track that a node plays; it has these notes (start, length, pitch)."""
    clip = (0, 1, 1, tuple(note + (127,) for note in notes))
    return Project(tempo, [("t", FLAT, 4, (clip,))], [NODES[0], OUT], [("a", "out")])


def with_points(*points, tempo=TEMPO):
    return Project(tempo, [], [("g", ("gain", points)), OUT], [("g", "out")])


class TestFirstChange(unittest.TestCase):
    def both_ways(self, first, second):
        frame = first_change(first, second)
        self.assertEqual(first_change(second, first), frame)
        return frame

    def test_none(self):
        self.assertIsNone(self.both_ways(example(), example()))
        self.assertIsNone(first_change(WIDE, WIDE))
        empty = Project(TEMPO, [], [OUT], [])
        self.assertIsNone(self.both_ways(empty, Project([(0, 7, 3)], [], [OUT], [])))

    def test_0(self):
        for edit in (("voices", "t", 5), ("instrument", "u", ("saw", 1, 3)), ("tracks", 0, 0, (("z", FLAT, 1, ()),)),
                     ("tracks", 2, 3, ()), ("nodes", 0, 0, (("z", ("bus",)),)), ("what", "b", ("pass",)),
                     ("what", "g", ("pass",)), ("what", "b", ("gain", ((0, 1),))), ("what", "a", ("track", "t")),
                     ("lines", 3, 4, ()), ("lines", 4, 4, (("b", "out"),)), ("tracks", 2, 3, (("w", FLAT, 1, ()),)),
                     ("lines", 0, 4, tuple(WIDE.lines[::-1])), ("nodes", 0, 5, tuple(WIDE.nodes[::-1])),
                     ("tracks", 0, 3, tuple(WIDE.tracks[::-1])),
                     ("lines", 1, 4, (("h", "out"), ("g", "h"), ("a", "b"))),
                     ("nodes", 3, 4, (("b", ("delay", 1, 1, 1)),))):
            self.assertEqual(self.both_ways(WIDE, done(WIDE, edit)), 0)
        delay = done(WIDE, ("what", "b", ("delay", 1, 2, 3)))
        self.assertEqual(self.both_ways(delay, done(WIDE, ("what", "b", ("delay", 1, 2, 4)))), 0)

    def test_two_gains_in_another_order(self):
        gains = [("g", ("gain", ((5, 1),))), ("h", ("gain", ((5, 1),)))]
        first = Project(TEMPO, [], gains + [OUT], [])
        self.assertEqual(self.both_ways(first, Project(TEMPO, [], gains[::-1] + [OUT], [])), 0)

    def test_events_that_differ_only_in_their_ends(self):
        first = with_notes((2, 10, 60), (4, 10, 61), (6, 10, 62))
        self.assertEqual(self.both_ways(first, with_notes((2, 10, 60), (4, 9, 61), (6, 10, 62))), 13)
        self.assertEqual(self.both_ways(first, with_notes((2, 11, 60), (4, 10, 61), (6, 10, 62))), 12)
        # At two places: the least of both ends counts, wherever it stands.
        self.assertEqual(self.both_ways(first, with_notes((2, 11, 60), (4, 3, 61), (6, 10, 62))), 7)
        self.assertEqual(self.both_ways(first, with_notes((2, 5, 60), (4, 10, 61), (6, 1, 62))), 7)
        self.assertEqual(self.both_ways(first, with_notes((2, 6, 60), (4, 10, 61), (6, 1, 62))), 7)
        self.assertEqual(self.both_ways(first, with_notes((2, 3, 60), (4, 10, 61), (6, 1, 62))), 5)

    def test_ends_and_then_another_difference(self):
        first = with_notes((2, 10, 60), (4, 10, 61), (6, 10, 62))
        self.assertEqual(self.both_ways(first, with_notes((2, 9, 60), (4, 10, 61), (6, 10, 63))), 6)
        self.assertEqual(self.both_ways(first, with_notes((2, 3, 60), (4, 10, 61), (6, 10, 63))), 5)
        # Behind the first place that differs otherwise nothing is compared.
        self.assertEqual(self.both_ways(first, with_notes((2, 10, 60), (4, 10, 62), (6, 10, 62))), 4)
        long = with_notes((2, 10, 60), (4, 10, 61), (4, 5, 9))
        self.assertEqual(self.both_ways(long, with_notes((2, 10, 60), (4, 10, 62), (4, 1, 9))), 4)

    def test_events_that_differ_otherwise(self):
        first = with_notes((2, 10, 60), (4, 10, 61))
        self.assertEqual(self.both_ways(first, with_notes((2, 10, 60), (4, 10, 60))), 4)
        self.assertEqual(self.both_ways(first, with_notes((2, 10, 60), (5, 9, 61))), 4)
        self.assertEqual(self.both_ways(first, with_notes((2, 10, 60), (3, 11, 61))), 3)
        self.assertEqual(self.both_ways(first, with_notes((3, 9, 60), (4, 10, 61))), 2)
        quiet = done(first, ("notes", "t", 0, 1, 2, ((4, 10, 61, 126),)))
        self.assertEqual(self.both_ways(first, quiet), 4)
        both = done(first, ("notes", "t", 0, 1, 2, ((4, 3, 61, 126),)))
        self.assertEqual(self.both_ways(first, both), 4)

    def test_one_list_of_events_is_longer(self):
        first = with_notes((2, 10, 60), (4, 10, 61))
        self.assertEqual(self.both_ways(first, with_notes((2, 10, 60))), 4)
        self.assertEqual(self.both_ways(first, with_notes()), 2)
        self.assertEqual(self.both_ways(first, with_notes((2, 1, 60))), 3)
        self.assertEqual(self.both_ways(first, with_notes((2, 10, 60), (4, 10, 61), (9, 1, 1), (11, 1, 1))), 9)

    def test_equal_events_of_other_clips(self):
        first = with_notes((2, 10, 60), (4, 10, 61))
        clips = ((1, 9, 1, ((1, 10, 60, 127),)), (0, 1, 1, ()), (4, 1, 1, ((0, 10, 61, 127),)))
        self.assertIsNone(self.both_ways(first, done(first, ("clips", "t", 0, 1, clips))))
        self.assertIsNone(self.both_ways(first, with_notes((4, 10, 61), (2, 10, 60))))

    def test_the_same_events_in_another_row(self):
        self.assertEqual(self.both_ways(with_notes((4, 1, 60), (4, 1, 61)), with_notes((4, 1, 61), (4, 1, 60))), 4)
        self.assertEqual(self.both_ways(with_notes((4, 1, 60), (4, 2, 60)), with_notes((4, 2, 60), (4, 1, 60))), 5)

    def test_another_tempo(self):
        notes = ((2, 1, 60), (6, 4, 61))
        first = with_notes(*notes)
        self.assertIsNone(self.both_ways(first, with_notes(*notes, tempo=[(0, 3, 3)])))
        self.assertEqual(self.both_ways(first, with_notes(*notes, tempo=[(0, 2, 1)])), 2)
        self.assertEqual(self.both_ways(first, with_notes(*notes, tempo=[(0, 1, 1), (4, 2, 1)])), 6)
        self.assertEqual(self.both_ways(first, with_notes(*notes, tempo=[(0, 1, 1), (7, 2, 1)])), 10)
        self.assertIsNone(self.both_ways(first, with_notes(*notes, tempo=[(0, 1, 1), (10, 2, 1)])))

    def test_the_least_frame_of_all_tracks_and_gains(self):
        for notes, points, expected in ((((8, 1, 1),), (6, 1), 5), (((4, 1, 1),), (6, 1), 4), ((), (6, 1), 5),
                                        (((8, 1, 1),), (6, 0), 8), ((), (6, 0), None)):
            tracks = [("t", FLAT, 1, ((0, 1, 1, tuple(note + (1,) for note in notes)),)), ("u", FLAT, 1, ())]
            for row in (tracks, tracks[::-1]):
                nodes = [("g", ("gain", ((0, 0), (5, 0), points))), ("h", ("gain", ((2, 2),))), OUT]
                second = Project(TEMPO, row, nodes, [])
                nodes = [("g", ("gain", ((0, 0), (5, 0), (6, 0)))), ("h", ("gain", ((2, 2),))), OUT]
                first = Project(TEMPO, [track[:3] + ((),) for track in row], nodes, [])
                self.assertEqual(self.both_ways(first, second), expected)

    def test_points(self):
        first = with_points((2, 1), (5, 2), (9, 3))
        for second, expected in (
            (((2, 1), (5, 2), (9, 4)), 5), (((2, 1), (5, 2), (8, 3)), 5), (((2, 1), (5, 3), (9, 3)), 2),
            (((2, 1), (6, 2), (9, 3)), 2), (((2, 2), (5, 2), (9, 3)), 0), (((3, 1), (5, 2), (9, 3)), 0),
            (((2, 1), (5, 2)), 5), (((2, 1),), 2), (((2, 1), (5, 2), (9, 3), (10, 3)), 9),
            (((1, 1), (2, 1), (5, 2), (9, 3)), 0), (((2, 1), (5, 2), (7, 7), (9, 3)), 5), (((7, 7),), 0),
        ):
            self.assertEqual(self.both_ways(first, with_points(*second)), expected)

    def test_points_that_differ_only_in_their_ticks(self):
        half = [(0, 1, 2)]
        first = with_points((2, 1), (4, 2), (9, 3), tempo=half)
        self.assertIsNone(self.both_ways(first, with_points((3, 1), (5, 2), (8, 3), tempo=half)))
        self.assertEqual(self.both_ways(first, with_points((3, 1), (5, 2), (7, 3), tempo=half)), 2)
        self.assertIsNone(self.both_ways(first, with_points((1, 1), (2, 2), (4, 3))))

    def test_several_points_of_one_frame(self):
        slow = [(0, 1, 4)]
        first = with_points((0, 1), (8, 2), (9, 3), (10, 4), tempo=slow)
        self.assertEqual(self.both_ways(first, with_points((0, 1), (8, 2), (9, 3), (10, 5), tempo=slow)), 2)
        self.assertEqual(self.both_ways(first, with_points((0, 1), (8, 2), (10, 4), tempo=slow)), 2)
        self.assertEqual(self.both_ways(first, with_points((0, 1), (9, 3), (10, 4), tempo=slow)), 0)

    def test_the_points_of_each_gain_are_compared(self):
        first = done(WIDE, ("points", "h", 0, 1, ((3, 7), (20, 8))))
        self.assertEqual(self.both_ways(first, done(first, ("points", "h", 1, 2, ()))), 4)
        self.assertEqual(self.both_ways(first, done(first, ("points", "g", 3, 4, ()))), 10)

    def test_lists_are_not_modified(self):
        first, second = example(), done(example(), ("notes", "t", 0, 0, 1, ()))
        before = copy.deepcopy((parts_of(first), parts_of(second)))
        self.assertEqual(first_change(first, second), 0)
        self.assertEqual((parts_of(first), parts_of(second)), before)


def random_pair(rng):
    """The parts of two projects that differ in little or in nothing that sounds."""
    first = random_parts(rng)
    tempo, tracks, nodes, lines = copy.deepcopy(first)
    if rng.random() < 0.3:
        tempo = tempo[:-1] + [tempo[-1][:1] + (rng.randint(1, 5), 1)]
    if rng.random() < 0.3:
        tempo.append((tempo[-1][0] + rng.randint(1, 20), 3, 2))
    for index, (name, instrument, voices, clips) in enumerate(tracks):
        clips = list(clips)
        for place, (at, period, times, notes) in enumerate(clips):
            if rng.random() < 0.3 and notes:
                start, length, pitch, strength = notes[-1]
                changed = rng.choice((((start, length + 1, pitch, strength),), ((start, length, pitch, 5),), ()))
                clips[place] = (at, period, times, notes[:-1] + changed)
        if rng.random() < 0.2:
            clips.append(random_clip(rng))
        tracks[index] = (name, instrument, voices, tuple(clips))
    for index, (name, what) in enumerate(nodes):
        if what[0] == "gain" and rng.random() < 0.5:
            points = what[1][:rng.randint(0, len(what[1]))]
            late = tuple(point for point in random_points(rng) if not points or point[0] > points[-1][0])
            nodes[index] = (name, ("gain", points + late or what[1]))
    return first, (tempo, tracks, nodes, lines)


class TestBeforeTheFrame(unittest.TestCase):
    def test_random_pairs_have_the_told_frame(self):
        rng = random.Random(64)
        frames = []
        for _ in range(600):
            first, second = random_pair(rng)
            frames.append(told_change(first, second))
            self.assertEqual(first_change(Project(*first), Project(*second)), frames[-1])
        self.assertGreater(len(set(frames)), 15)
        self.assertIn(None, frames)

    def test_random_projects_have_the_told_frame(self):
        rng = random.Random(65)
        for _ in range(200):
            project = random_project(rng)
            found = refused(done, project, random_edit(rng, project))
            if isinstance(found, Project):
                self.assertEqual(first_change(project, found), told_change(parts_of(project), parts_of(found)))

    def test_each_node_sounds_the_same_before_it(self):
        rng = random.Random(66)
        for _ in range(200):
            first, second = random_pair(rng)
            frame = first_change(Project(*first), Project(*second))
            count = 40 if frame is None else min(frame, 40)
            self.assertEqual(told_sounds(*first, count), told_sounds(*second, count))
            self.assertEqual(samples(Project(*first), count), samples(Project(*second), count))

    def test_an_engine_goes_on_from_the_state_of_the_other_project(self):
        rng = random.Random(67)
        tried = 0
        for _ in range(200):
            first, second = (Project(*parts) for parts in random_pair(rng))
            frame = first_change(first, second)
            expected = samples(second, 50)
            for at in (1, 7, 30) if frame is None else sorted({1, frame // 2, frame}):
                if 0 < at <= 40 and (frame is None or at <= frame):
                    tried += 1
                    engine, other = Engine(first), Engine(second)
                    engine.process(at)
                    other.restore(at, engine.state())
                    self.assertEqual(other.process(50 - at), expected[at:])
        self.assertGreater(tried, 100)


if __name__ == "__main__":
    unittest.main()
