"""Point 5.7, and the interface of everyblock.plain."""

import itertools
import random
import unittest

from checks import stand_in
from projects import LINES, NODES, OUT, TEMPO, TRACK, example, flat_track, parts_of, random_parts
from told import told_sound

from everyblock import plain
from everyblock.plain import samples
from everyblock.project import Project

LOUD = flat_track("l", 8388607, (0, 2))
DEEP = flat_track("d", -8388608, (0, 2))


def sound(tracks, nodes, lines, count, tempo=TEMPO):
    return samples(Project(tempo, tracks, nodes, lines), count)


class TestInterface(unittest.TestCase):
    def test_functions_stand_in_this_file(self):
        self.assertIs(stand_in(plain, {"samples": "(project, count)"}), True)

    def test_the_project_is_not_modified_and_lists_are_new(self):
        project = example()
        before = parts_of(project)
        found = samples(project, 4)
        found.clear()
        self.assertEqual(samples(project, 4), [0, 0, 12000, 12000])
        self.assertEqual(parts_of(project), before)


class TestCounts(unittest.TestCase):
    def test_the_example_of_the_beginning(self):
        self.assertEqual(samples(example(), 8), [0, 0, 12000, 12000, 12000, 0, 0, 0])

    def test_0_frames_and_1_frame(self):
        self.assertEqual(samples(example(), 0), [])
        self.assertEqual(samples(example(), 1), [0])
        self.assertEqual(sound([LOUD], [("a", ("track", "l")), OUT], [("a", "out")], 1), [8388607])

    def test_each_count_is_a_beginning_of_the_same_sound(self):
        long = samples(example(), 9)
        self.assertEqual([samples(example(), count) for count in range(9)], [long[:count] for count in range(9)])


class TestNodes(unittest.TestCase):
    def test_an_output_without_inputs(self):
        self.assertEqual(sound([], [OUT], [], 3), [0, 0, 0])
        self.assertEqual(sound([LOUD], [("a", ("track", "l")), OUT], [], 3), [0, 0, 0])
        self.assertEqual(sound([LOUD], [("a", ("track", "l")), ("b", ("bus",)), OUT], [("a", "b")], 3), [0, 0, 0])

    def test_no_tracks_at_all(self):
        nodes = [("a", ("bus",)), ("b", ("delay", 1, 65536, 65536)), OUT]
        self.assertEqual(sound([], nodes, [("a", "b"), ("b", "out"), ("a", "out")], 4), [0] * 4)

    def test_a_track_that_no_node_plays(self):
        nodes = [("a", ("track", "t")), OUT]
        self.assertEqual(sound([LOUD, TRACK, DEEP], nodes, [("a", "out")], 4), [8000, 8000, 8000, 0])

    def test_a_track_that_several_nodes_play(self):
        nodes = [("a", ("track", "t")), ("b", ("track", "t")), ("c", ("track", "t")), OUT]
        self.assertEqual(sound([TRACK], nodes, [("a", "out"), ("c", "out")], 4), [16000, 16000, 16000, 0])

    def test_nodes_in_any_order(self):
        for nodes in itertools.permutations(NODES):
            for lines in itertools.permutations(LINES):
                self.assertEqual(sound([TRACK], list(nodes), list(lines), 6), [0, 0, 12000, 12000, 12000, 0])

    def test_a_bus_sounds_as_what_reaches_it(self):
        nodes = [("a", ("track", "l")), ("b", ("bus",)), ("c", ("bus",)), OUT]
        self.assertEqual(sound([LOUD], nodes, [("a", "b"), ("b", "c"), ("c", "out")], 3), [8388607, 8388607, 0])

    def test_effects_begin_at_rest(self):
        nodes = [("a", ("track", "t")), ("d", ("delay", 2, 0, 32768)), ("s", ("smooth", 1)), OUT]
        self.assertEqual(sound([TRACK], nodes, [("a", "d"), ("d", "out")], 6), [8000, 8000, 12000, 4000, 4000, 0])
        self.assertEqual(sound([TRACK], nodes, [("a", "s"), ("s", "out")], 5), [4000, 6000, 7000, 3500, 1750])

    def test_one_node_is_the_input_of_several(self):
        nodes = [("a", ("track", "t")), ("p", ("pass",)), ("q", ("pass",)), OUT]
        lines = [("a", "p"), ("a", "q"), ("p", "out"), ("q", "out")]
        self.assertEqual(sound([TRACK], nodes, lines, 4), [16000, 16000, 16000, 0])


class TestCut(unittest.TestCase):
    def test_sums_beyond_a_sample_in_both_directions(self):
        nodes = [("a", ("track", "l")), ("b", ("track", "l")), ("c", ("track", "d")), ("d", ("track", "d")), OUT]
        self.assertEqual(sound([LOUD, DEEP], nodes, [("a", "out"), ("b", "out")], 3), [8388607, 8388607, 0])
        self.assertEqual(sound([LOUD, DEEP], nodes, [("c", "out"), ("d", "out")], 3), [-8388608, -8388608, 0])

    def test_the_sum_is_cut_once_behind_the_adding(self):
        nodes = [("a", ("track", "l")), ("b", ("track", "l")), ("c", ("track", "d")), OUT]
        for lines in itertools.permutations([("a", "out"), ("b", "out"), ("c", "out")]):
            self.assertEqual(sound([LOUD, DEEP], nodes, list(lines), 3), [8388606, 8388606, 0])

    def test_what_reaches_each_node_is_cut(self):
        nodes = [("a", ("track", "l")), ("b", ("track", "l")), ("m", ("bus",)), ("c", ("track", "d")), OUT]
        lines = [("a", "m"), ("b", "m"), ("m", "out"), ("c", "out")]
        self.assertEqual(sound([LOUD, DEEP], nodes, lines, 3), [-1, -1, 0])
        half = ("m", ("gain", ((0, 32768),)))
        self.assertEqual(sound([LOUD, DEEP], nodes[:2] + [half] + nodes[3:], lines, 3), [-4194304, -4194304, 0])


class TestDelays(unittest.TestCase):
    def test_two_ways_of_different_latencies_arrive_together(self):
        nodes = [("a", ("track", "t")), ("b", ("ahead", 1, 8388607)), ("c", ("ahead", 3, 8388607)), OUT]
        lines = [("a", "b"), ("a", "c"), ("a", "out"), ("b", "out"), ("c", "out")]
        self.assertEqual(sound([TRACK], nodes, lines, 7), [0, 0, 0, 24000, 24000, 24000, 0])

    def test_latencies_behind_latencies(self):
        nodes = [("a", ("track", "t")), ("b", ("ahead", 1, 8388607)), ("c", ("ahead", 2, 8388607)), OUT]
        lines = [("a", "b"), ("b", "c"), ("c", "out"), ("b", "out"), ("a", "out")]
        self.assertEqual(sound([TRACK], nodes, lines, 7), [0, 0, 0, 24000, 24000, 24000, 0])

    def test_a_delay_is_no_latency(self):
        nodes = [("a", ("track", "t")), ("b", ("delay", 2, 0, 65536)), OUT]
        self.assertEqual(sound([TRACK], nodes, [("a", "b"), ("a", "out"), ("b", "out")], 6),
                         [16000, 16000, 24000, 8000, 8000, 0])

    def test_a_latency_beyond_the_frames_that_are_asked(self):
        nodes = [("a", ("track", "t")), ("b", ("ahead", 32, 8388607)), OUT]
        lines = [("a", "b"), ("b", "out"), ("a", "out")]
        self.assertEqual(sound([TRACK], nodes, lines, 5), [0] * 5)
        self.assertEqual(sound([TRACK], nodes, lines, 34), [0] * 32 + [16000] * 2)

    def test_a_latency_that_the_output_does_not_hear(self):
        nodes = [("a", ("track", "t")), ("b", ("ahead", 9, 1)), ("c", ("bus",)), OUT]
        self.assertEqual(sound([TRACK], nodes, [("a", "b"), ("b", "c"), ("a", "out")], 4), [8000, 8000, 8000, 0])


class TestMoments(unittest.TestCase):
    def test_a_gain_without_latency_before_it(self):
        nodes = [("a", ("track", "t")), ("g", ("gain", ((0, 65536), (2, 0)))), OUT]
        self.assertEqual(sound([TRACK], nodes, [("a", "g"), ("g", "out")], 4), [8000, 4000, 0, 0])

    def test_a_gain_behind_an_ahead_has_its_moments(self):
        nodes = [("a", ("track", "t")), ("b", ("ahead", 3, 8388607)), ("g", ("gain", ((0, 65536), (2, 0)))), OUT]
        self.assertEqual(sound([TRACK], nodes, [("a", "b"), ("b", "g"), ("g", "out")], 8),
                         [0, 0, 0, 8000, 4000, 0, 0, 0])

    def test_both_ways_have_the_same_moments(self):
        gain = ("gain", ((0, 0), (4, 262144)))
        nodes = [("a", ("track", "t")), ("g", gain), ("b", ("ahead", 5, 8388607)), ("h", gain), OUT]
        lines = [("a", "g"), ("g", "out"), ("a", "b"), ("b", "h"), ("h", "out")]
        self.assertEqual(sound([TRACK], nodes, lines, 9), [0] * 6 + [16000, 32000, 0])

    def test_the_ticks_of_a_gain_become_frames_by_the_tempo(self):
        nodes = [("a", ("track", "t")), ("g", ("gain", ((0, 65536), (2, 0)))), OUT]
        self.assertEqual(sound([TRACK], nodes, [("a", "g"), ("g", "out")], 7, [(0, 2, 1)]),
                         [8000, 6000, 4000, 2000, 0, 0, 0])

    def test_a_gain_where_two_ways_meet(self):
        nodes = [("a", ("track", "t")), ("b", ("ahead", 2, 8388607)), ("g", ("gain", ((0, 32768), (2, 0)))), OUT]
        lines = [("a", "b"), ("b", "g"), ("a", "g"), ("g", "out")]
        self.assertEqual(sound([TRACK], nodes, lines, 6), [0, 0, 8000, 4000, 0, 0])


class TestRandom(unittest.TestCase):
    def test_random_projects_have_the_told_sound(self):
        rng = random.Random(57)
        heard = 0
        for _ in range(200):
            parts = random_parts(rng)
            expected = told_sound(*parts, 50)
            self.assertEqual(samples(Project(*parts), 50), expected)
            heard += any(expected)
        self.assertGreater(heard, 50)


if __name__ == "__main__":
    unittest.main()
