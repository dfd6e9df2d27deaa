"""Points 3.1 to 3.4, and the interface of everyblock.project."""

import copy
import inspect
import itertools
import random
import unittest

from checks import deep, refusal, refused, stand_in, with_item
from projects import FLAT, LINES, NODES, OUT, TEMPO, TRACK, example, parts_of, random_parts, with_part
from told import exact_frame, told_events

from everyblock import project as project_module
from everyblock.errors import (BadClip, BadEffect, BadInstrument, BadLineEnd, BadNode, BadNote, BadPoint, BadTempo,
                               BadTrack, BadVoices, DuplicateLine, DuplicateNode, DuplicateTrack, OneOutput, Ring,
                               UnknownNode, UnknownTrack)
from everyblock.project import Project, same_project
from everyblock.source import sample_at, track_samples

NO_NAMES = ("", "A", "aB", "abcdefghi", "a b", "a1", "\u00e4", None, 0, 1, True, ("a",), ["a"], (), [])
NO_TUPLES = (None, True, 0, 5, "", "saw", [], ["saw", 0, 0], ["bus"])
NOTE = (0, 3, 60, 127)
CLIP = (0, 8, 1, (NOTE,))
PARTS = (TEMPO, [TRACK], NODES, LINES)


def with_tracks(*tracks):
    return refused(Project, TEMPO, list(tracks), [OUT], [])


def with_nodes(*nodes):
    return refused(Project, TEMPO, [TRACK], list(nodes), [])


class TestInterface(unittest.TestCase):
    def test_what_stands_in_this_file(self):
        self.assertIs(stand_in(project_module, {"same_project": "(first, second)"}), True)
        self.assertEqual(Project.__module__, "everyblock.project")
        self.assertEqual(str(inspect.signature(Project)), "(tempo, tracks, nodes, lines)")

    def test_methods_and_properties_stand_in_the_class(self):
        for name in ("track", "events", "in_frames"):
            self.assertEqual(str(inspect.signature(vars(Project)[name])), "(self, name)")
        for name in ("tempo", "tracks", "nodes", "lines"):
            self.assertIsInstance(vars(Project)[name], property)


class TestKept(unittest.TestCase):
    def test_it_has_what_was_passed(self):
        project = Project(*PARTS)
        self.assertEqual(parts_of(project), PARTS)
        self.assertEqual([kind.__class__ for kind in parts_of(project)], [list] * 4)

    def test_lists_may_change_behind_its_making(self):
        parts = [list(part) for part in PARTS]
        project = Project(*parts)
        events = project.events("t")
        for part in parts:
            part.clear()
        self.assertEqual(parts_of(project), PARTS)
        parts[0].append((0, 9, 1))
        parts[1].extend([1, 2])
        self.assertEqual(parts_of(project), PARTS)
        self.assertEqual(project.events("t"), events)
        self.assertEqual(project.track("t"), TRACK)

    def test_each_property_returns_a_new_list(self):
        project = example()
        for part in parts_of(project):
            part.append("x")
            part.reverse()
            part.pop()
        self.assertEqual(parts_of(project), PARTS)
        for one, other in zip(parts_of(project), parts_of(project)):
            self.assertIsNot(one, other)

    def test_events_are_a_new_list(self):
        project = example()
        project.events("t").clear()
        project.events("t").append(1)
        self.assertEqual(project.events("t"), [(0, 3, 60, 127)])

    def test_arguments_are_not_modified(self):
        parts = copy.deepcopy(PARTS)
        Project(*parts)
        self.assertEqual(parts, PARTS)

    def test_the_least_project(self):
        project = Project(TEMPO, [], [OUT], [])
        self.assertEqual(parts_of(project), (TEMPO, [], [OUT], []))

    def test_several_nodes_may_play_a_track_and_none_another_one(self):
        tracks = [TRACK, with_item(TRACK, 0, "u")]
        nodes = [("a", ("track", "t")), ("b", ("track", "t")), OUT, ("t", ("bus",))]
        project = Project(TEMPO, tracks, nodes, [("a", "out"), ("b", "out")])
        self.assertEqual((project.tracks, project.nodes), (tracks, nodes))

    def test_names_of_1_and_of_8_letters(self):
        tracks = [with_item(TRACK, 0, "a"), with_item(TRACK, 0, "abcdwxyz")]
        nodes = [("z", ("track", "abcdwxyz")), ("zyxwdcba", ("output",))]
        self.assertEqual(Project(TEMPO, tracks, nodes, [("z", "zyxwdcba")]).nodes, nodes)

    def test_random_projects(self):
        rng = random.Random(31)
        for _ in range(100):
            parts = random_parts(rng)
            self.assertEqual(parts_of(Project(*parts)), parts)


class TestAsked(unittest.TestCase):
    def setUp(self):
        other = ("u", ("saw", 1, 2), 3, ((5, 9, 2, ((1, 2, 61, 5), (0, 4, 62, 6))), (0, 1, 1, ((9, 1, 7, 8),))))
        self.tempo = [(0, 3, 2), (7, 1, 3)]
        self.points = ((0, 1), (5, 2), (8, 3), (9, 4))
        self.nodes = [("g", ("gain", self.points)), ("h", ("gain", ((6, 5),))), ("t", ("track", "u")),
                      ("d", ("delay", 3, 4, 5)), ("s", ("smooth", 2)), ("l", ("ahead", 6, 7)), ("p", ("pass",)),
                      ("b", ("bus",)), OUT]
        self.tracks = [TRACK, other]
        self.project = Project(self.tempo, self.tracks, self.nodes, [("g", "out")])

    def test_track(self):
        for track in self.tracks:
            self.assertEqual(self.project.track(track[0]), track)

    def test_events(self):
        for name, _, _, clips in self.tracks:
            self.assertEqual(self.project.events(name), told_events(self.tempo, clips))

    def test_unknown_tracks(self):
        for name in ("x", "g", "out", "", "tt"):
            self.assertEqual(refused(self.project.track, name), refusal(UnknownTrack, name))
            self.assertEqual(refused(self.project.events, name), refusal(UnknownTrack, name))

    def test_in_frames(self):
        for name, what in self.nodes:
            if what[0] == "gain":
                what = ("gain", tuple((exact_frame(self.tempo, tick), value) for tick, value in what[1]))
            self.assertEqual(self.project.in_frames(name), what)
        self.assertEqual(self.project.in_frames("g"), ("gain", ((0, 1), (7, 2), (10, 3), (11, 4))))
        self.assertIsInstance(self.project.in_frames("g")[1], tuple)

    def test_unknown_nodes(self):
        for name in ("x", "u", "", "oout"):
            self.assertEqual(refused(self.project.in_frames, name), refusal(UnknownNode, name))

    def test_the_samples_of_its_tracks(self):
        project = Project([(0, 2, 1)], [TRACK, with_item(TRACK, 0, "u"), ("v", FLAT, 1, ())], [OUT], [])
        for name in ("t", "u"):
            self.assertEqual(track_samples(project, name, 4, 4), [8000, 8000, 0, 0])
            self.assertEqual([sample_at(project, name, frame) for frame in (0, 5, 6)], [8000, 8000, 0])
        self.assertEqual(track_samples(project, "v", 0, 2), [0, 0])
        self.assertEqual(refused(track_samples, project, "x", 0, 1), refusal(UnknownTrack, "x"))
        self.assertEqual(refused(sample_at, project, "out", 0), refusal(UnknownTrack, "out"))


class TestSame(unittest.TestCase):
    def test_equal_projects(self):
        self.assertIs(same_project(example(), example()), True)
        project = example()
        self.assertIs(same_project(project, project), True)

    def test_a_difference_in_each_part(self):
        nodes = NODES + [("c", ("bus",))]
        others = [
            ([(0, 1, 2)], [TRACK], NODES, LINES), ([(0, 2, 2)], [TRACK], NODES, LINES),
            (TEMPO, [with_item(TRACK, 2, 5)], NODES, LINES), (TEMPO, [TRACK, with_item(TRACK, 0, "u")], NODES, LINES),
            (TEMPO, [TRACK], nodes, LINES), (TEMPO, [TRACK], NODES[::-1], LINES), (TEMPO, [TRACK], NODES, LINES[::-1]),
            (TEMPO, [TRACK], NODES, LINES[:-1]), (TEMPO, [TRACK], NODES, []),
        ]
        projects = [example()] + [Project(*parts) for parts in others]
        for one, other in itertools.permutations(projects, 2):
            self.assertIs(same_project(one, other), False)

    def test_what_sounds_the_same_is_not_yet_the_same(self):
        other = Project([(0, 2, 2)], [TRACK], NODES, LINES)
        self.assertEqual(other.events("t"), example().events("t"))
        self.assertIs(same_project(example(), other), False)


class TestTracks(unittest.TestCase):
    def test_a_track_of_another_form(self):
        for track in (None, True, 0, "t", [], (), list(TRACK), TRACK[:3], TRACK + (0,), TRACK[:1], deep()):
            self.assertEqual(with_tracks(track), refusal(BadTrack, 0))
            self.assertEqual(with_tracks(TRACK, track), refusal(BadTrack, 1))

    def test_a_name_that_is_none(self):
        for name in NO_NAMES:
            self.assertEqual(with_tracks(with_item(TRACK, 0, name)), refusal(BadTrack, 0))

    def test_an_instrument_that_is_no_tuple(self):
        for instrument in NO_TUPLES:
            self.assertEqual(with_tracks(with_item(TRACK, 1, instrument)), refusal(BadTrack, 0))

    def test_clips_that_are_no_tuple(self):
        for clips in NO_TUPLES + ([CLIP],):
            self.assertEqual(with_tracks(TRACK, with_item(TRACK, 3, clips)), refusal(BadTrack, 1))

    def test_no_clips(self):
        self.assertEqual(Project(TEMPO, [with_item(TRACK, 3, ())], [OUT], []).events("t"), [])

    def test_the_error_of_the_instrument(self):
        for instrument, place in (((), None), (("saw", 0), None), (("sine", 0, 0), 0), (("saw", 0, 0, ()), None),
                                  (("saw", -1, 0), 1), (("square", 0, 1001), 2), (("steps", 0, 0, ()), 3),
                                  ((["saw"], 0, 0), 0), (("saw", True, 0), 1)):
            self.assertEqual(with_tracks(with_item(TRACK, 1, instrument)), refusal(BadInstrument, place))

    def test_the_error_of_the_voices(self):
        for voices in (0, 17, -1, True, False, None, "4", (4,), [4]):
            self.assertEqual(with_tracks(with_item(TRACK, 2, voices)), refusal(BadVoices))
        for voices in (1, 16):
            Project(TEMPO, [with_item(TRACK, 2, voices)], [OUT], [])

    def test_the_error_of_a_clip(self):
        for clip, error in ((list(CLIP), refusal(BadClip)), (None, refusal(BadClip)), (CLIP[:3], refusal(BadClip)),
                            ((0, 0, 1, (NOTE,)), refusal(BadClip, 1)), ((0, 8, 1, [NOTE]), refusal(BadClip, 3)),
                            ((0, 8, 1, (NOTE, (0, 0, 60, 127))), refusal(BadNote, 1))):
            self.assertEqual(with_tracks(with_item(TRACK, 3, (clip,))), error)
            self.assertEqual(with_tracks(with_item(TRACK, 3, (CLIP, CLIP, clip))), error)

    def test_the_first_clip_counts(self):
        track = with_item(TRACK, 3, (CLIP, (0, 8, 0, ()), (0, 8, 1, (NOTE, None)), None))
        self.assertEqual(with_tracks(track), refusal(BadClip, 2))

    def test_a_name_twice(self):
        other = with_item(TRACK, 0, "u")
        self.assertEqual(with_tracks(TRACK, TRACK), refusal(DuplicateTrack, "t"))
        self.assertEqual(with_tracks(other, TRACK, with_item(other, 2, 1), TRACK), refusal(DuplicateTrack, "u"))
        self.assertEqual(with_tracks(other, TRACK, TRACK, other), refusal(DuplicateTrack, "t"))

    def test_within_a_track_the_first_error_counts(self):
        wrong = (
            ((1, ["saw"]), refusal(BadTrack, 1)), ((1, ("saw", 0)), refusal(BadInstrument)),
            ((2, 0), refusal(BadVoices)), ((3, (None,)), refusal(BadClip)), ((0, "u"), refusal(DuplicateTrack, "u")),
        )
        for first, second in itertools.combinations(range(len(wrong)), 2):
            (index, value), error = wrong[first]
            (other, worse), _ = wrong[second]
            if index != other:
                track = with_item(with_item(TRACK, index, value), other, worse)
                self.assertEqual(with_tracks(with_item(TRACK, 0, "u"), track), error)

    def test_the_form_of_the_clips_comes_ahead_of_the_instrument(self):
        track = ("t", ("saw", 0), 0, [])
        self.assertEqual(with_tracks(track), refusal(BadTrack, 0))
        self.assertEqual(with_tracks(with_item(track, 3, (None,))), refusal(BadInstrument))
        self.assertEqual(with_tracks(("", ("saw", 0), 0, ())), refusal(BadTrack, 0))

    def test_track_by_track_the_first_error_counts(self):
        wrong = ((None, refusal(BadTrack, 1)), (with_item(TRACK, 1, ()), refusal(BadInstrument)),
                 (with_item(TRACK, 2, 0), refusal(BadVoices)), (with_item(TRACK, 3, (None,)), refusal(BadClip)),
                 (TRACK, refusal(DuplicateTrack, "t")))
        for (track, error), (other, _) in itertools.permutations(wrong, 2):
            self.assertEqual(with_tracks(TRACK, track, other), error)


class TestNodes(unittest.TestCase):
    def test_a_node_of_another_form(self):
        for node in (None, True, 0, "ab", [], (), ["a", ("bus",)], ("a",), ("a", ("bus",), 0), deep()):
            self.assertEqual(with_nodes(node), refusal(BadNode, 0))
            self.assertEqual(with_nodes(OUT, node), refusal(BadNode, 1))

    def test_a_name_that_is_none(self):
        for name in NO_NAMES:
            self.assertEqual(with_nodes(OUT, (name, ("bus",))), refusal(BadNode, 1))

    def test_a_kind_that_is_no_tuple_or_is_empty(self):
        for what in NO_TUPLES + ((),):
            self.assertEqual(with_nodes(("a", what), OUT), refusal(BadNode, 0))

    def test_a_wrong_number_of_items(self):
        for what in (("track",), ("track", "t", "t"), ("bus", "t"), ("bus", 1, 2), ("output", 1), ("output", "out")):
            self.assertEqual(with_nodes(OUT, ("a", what)), refusal(BadNode, 1))

    def test_a_track_that_does_not_exist(self):
        for name in ("u", "a", "", "T", None, 0, True, [], ["t"], ("t",), [("t", [])]):
            self.assertEqual(with_nodes(OUT, ("a", ("track", name))), refusal(UnknownTrack, name))
        self.assertEqual(refused(Project, TEMPO, [], NODES, LINES), refusal(UnknownTrack, "t"))

    def test_every_other_kind_is_checked_as_an_effect(self):
        for what in (("none",), ("Bus",), ("BUS", 1), ("pass", 1), ("gain",), ("gain", (), ()), ("delay", 0, 0, 0),
                     ("smooth", 9), ("ahead", 33, 1), ("ahead", 1, 0), ("smooth", True), (None,), (["bus"],),
                     (("bus",),), (True,), ([], [], [])):
            self.assertEqual(with_nodes(OUT, ("a", what)), refusal(BadEffect, what))

    def test_a_deep_kind(self):
        what = (deep(),)
        error, word, place = with_nodes(OUT, ("a", what))
        self.assertEqual((error, word), (BadEffect, "BadEffect"))
        self.assertIs(place, what)

    def test_the_points_of_a_gain(self):
        for points, place in (((), None), (None, None), ([(0, 1)], None), (((0, 1), (0, 2)), 1), (((0, -1),), 0)):
            self.assertEqual(with_nodes(OUT, ("a", ("gain", points))), refusal(BadPoint, place))

    def test_node_by_node_the_first_error_counts(self):
        wrong = ((None, refusal(BadNode, 1)), (("a", ("track", "x")), refusal(UnknownTrack, "x")),
                 (("a", ("smooth", 0)), refusal(BadEffect, ("smooth", 0))),
                 (("a", ("gain", ())), refusal(BadPoint)))
        for (node, error), (other, _) in itertools.permutations(wrong, 2):
            self.assertEqual(with_nodes(OUT, node, other), error)


class TestNet(unittest.TestCase):
    def test_the_errors_of_the_net(self):
        for nodes, lines, error in (
            (NODES + [("b", ("bus",))], LINES, refusal(DuplicateNode, "b")),
            (NODES[:2], [("a", "b")], refusal(OneOutput)),
            (NODES + [("c", ("output",))], LINES, refusal(OneOutput)),
            (NODES, LINES + [("x", "b")], refusal(UnknownNode, "x")),
            (NODES, LINES + [("t", "b")], refusal(UnknownNode, "t")),
            (NODES, LINES + [("out", "b")], refusal(BadLineEnd, "out")),
            (NODES, LINES + [("b", "a")], refusal(BadLineEnd, "a")),
            (NODES, LINES + [("a", "out")], refusal(DuplicateLine, 3)),
            (NODES, LINES + [("b", "b")], refusal(Ring)),
        ):
            self.assertEqual(refused(Project, TEMPO, [TRACK], nodes, lines), error)


class TestOrderOfChecks(unittest.TestCase):
    def test_tempo_tracks_nodes_and_net_in_this_order(self):
        wrong = (
            (0, [], refusal(BadTempo)), (0, [(0, 1, 1), (0, 1, 1)], refusal(BadTempo, 1)),
            (1, [None], refusal(BadTrack, 0)), (1, [TRACK, TRACK], refusal(DuplicateTrack, "t")),
            (2, NODES + [None], refusal(BadNode, 3)), (2, NODES + [("c", ("track", "x"))], refusal(UnknownTrack, "x")),
            (2, NODES + [("c", ("gain", ()))], refusal(BadPoint)),
            (3, LINES + [("x", "b")], refusal(UnknownNode, "x")), (3, LINES + [("b", "b")], refusal(Ring)),
        )
        for index, value, error in wrong:
            self.assertEqual(refused(Project, *with_part(PARTS, index, value)), error)
            for other, worse, _ in wrong:
                if other > index:
                    parts = with_part(with_part(PARTS, index, value), other, worse)
                    self.assertEqual(refused(Project, *parts), error)

    def test_all_nodes_come_ahead_of_the_net(self):
        nodes = [("a", ("bus",)), ("a", ("bus",)), ("b", ("smooth", 0))]
        self.assertEqual(with_nodes(*nodes), refusal(BadEffect, ("smooth", 0)))
        self.assertEqual(with_nodes(*nodes[:2]), refusal(DuplicateNode, "a"))


if __name__ == "__main__":
    unittest.main()
