"""Points 5.1 to 5.6, and the interface of everyblock.net."""

import copy
import itertools
import random
import unittest

from checks import refusal, refused, stand_in
from projects import LINES, NODES, OUT, random_parts
from told import told_arrival, told_delays, told_latency, told_order

from everyblock import net
from everyblock.errors import BadLineEnd, DuplicateLine, DuplicateNode, OneOutput, Ring, UnknownNode
from everyblock.net import arrivals, arrive_by, check_net, inputs_of, made_up, order_of, whole_latency

BUS = ("bus",)
PLAY = ("track", "t")


def buses(names):
    return [(name, BUS) for name in names]


def ahead(name, frames):
    return (name, ("ahead", frames, 1000))


class TestInterface(unittest.TestCase):
    def test_functions_stand_in_this_file(self):
        self.assertIs(stand_in(net, {
            "check_net": "(nodes, lines)", "order_of": "(nodes, lines)", "inputs_of": "(lines, name)",
            "arrivals": "(nodes, lines)", "made_up": "(nodes, lines)", "whole_latency": "(nodes, lines)",
            "arrive_by": "(nodes, lines, delays)",
        }), True)

    def test_arguments_are_not_modified_and_what_is_returned_is_new(self):
        nodes, lines, delays = list(NODES), list(LINES), [0, 2, 0]
        before = copy.deepcopy((nodes, lines, delays))
        for _ in range(2):
            check_net(nodes, lines)
            found = [order_of(nodes, lines), inputs_of(lines, "out"), arrivals(nodes, lines), made_up(nodes, lines),
                     arrive_by(nodes, lines, delays)]
            self.assertEqual(found, [["a", "b", "out"], ["a", "b"], {"a": 0, "b": 0, "out": 2}, [0, 2, 0],
                                     {"a": 0, "b": 0, "out": 2}])
            for value in found:
                value.clear()
        self.assertEqual((nodes, lines, delays), before)


class TestAccepted(unittest.TestCase):
    def test_returns_none(self):
        self.assertIsNone(check_net(NODES, LINES))
        self.assertIsNone(check_net([OUT], []))
        self.assertIsNone(check_net([ahead("a", 2), OUT], []))
        self.assertIsNone(check_net([("o", ("output",)), ("out", BUS)], [("out", "o")]))

    def test_nodes_in_any_order(self):
        for nodes in itertools.permutations(NODES):
            for lines in itertools.permutations(LINES):
                self.assertIsNone(check_net(list(nodes), list(lines)))

    def test_lines_may_go_on_side_by_side(self):
        nodes = buses("abc") + [OUT]
        self.assertIsNone(check_net(nodes, [("a", "b"), ("a", "c"), ("b", "c"), ("b", "out"), ("c", "out")]))

    def test_random_nets(self):
        rng = random.Random(51)
        for _ in range(100):
            _, _, nodes, lines = random_parts(rng)
            self.assertIsNone(check_net(nodes, lines))


class TestNodes(unittest.TestCase):
    def test_duplicate_node(self):
        for nodes, name in (
            ([("a", BUS), ("a", BUS), OUT], "a"),
            ([("a", BUS), OUT, ("a", ("pass",))], "a"),
            ([OUT, OUT], "out"),
            ([OUT, ("b", BUS), ("a", BUS), ("a", BUS), ("b", BUS)], "a"),
            ([("b", BUS), ("a", BUS), ("b", BUS), ("a", BUS), OUT], "b"),
        ):
            self.assertEqual(refused(check_net, nodes, []), refusal(DuplicateNode, name))

    def test_one_output(self):
        for nodes in ([], [("a", BUS)], [("a", ("output",)), OUT], [("a", PLAY), ("out", ("pass",))],
                      [("output", BUS)], [OUT, ("a", BUS), ("b", ("output",)), ("c", ("output",))]):
            self.assertEqual(refused(check_net, nodes, []), refusal(OneOutput))

    def test_duplicate_node_comes_ahead_of_one_output(self):
        self.assertEqual(refused(check_net, [("a", BUS), ("a", BUS)], []), refusal(DuplicateNode, "a"))
        self.assertEqual(refused(check_net, [OUT, ("b", ("output",)), OUT], []), refusal(DuplicateNode, "out"))

    def test_one_output_comes_ahead_of_the_lines(self):
        for lines in ([("a", "x")], [("a", "a")], [("a", "b"), ("a", "b")], [("b", "a")]):
            self.assertEqual(refused(check_net, [("a", PLAY), ("b", BUS)], lines), refusal(OneOutput))


class TestLines(unittest.TestCase):
    def setUp(self):
        self.nodes = [("p", PLAY), ("q", PLAY), ("a", BUS), ("b", ("smooth", 1)), OUT]

    def refused(self, *lines):
        return refused(check_net, self.nodes, list(lines))

    def test_unknown_node(self):
        self.assertEqual(self.refused(("x", "out")), refusal(UnknownNode, "x"))
        self.assertEqual(self.refused(("a", "x")), refusal(UnknownNode, "x"))
        self.assertEqual(self.refused(("y", "x")), refusal(UnknownNode, "y"))
        self.assertEqual(self.refused(("t", "out")), refusal(UnknownNode, "t"))
        self.assertEqual(self.refused(("a", "")), refusal(UnknownNode, ""))
        self.assertEqual(self.refused(("x", "x")), refusal(UnknownNode, "x"))

    def test_what_is_no_name_is_no_node_either(self):
        for value in (None, 0, True, [], ["a"], ("a",), ([],)):
            self.assertEqual(self.refused((value, "out")), refusal(UnknownNode, value))
            self.assertEqual(self.refused(("a", value)), refusal(UnknownNode, value))

    def test_a_line_from_the_output(self):
        self.assertEqual(self.refused(("out", "a")), refusal(BadLineEnd, "out"))
        self.assertEqual(self.refused(("out", "out")), refusal(BadLineEnd, "out"))

    def test_a_line_to_a_track(self):
        self.assertEqual(self.refused(("a", "q")), refusal(BadLineEnd, "q"))
        self.assertEqual(self.refused(("p", "q")), refusal(BadLineEnd, "q"))
        self.assertEqual(self.refused(("p", "p")), refusal(BadLineEnd, "p"))

    def test_a_line_twice(self):
        self.assertEqual(self.refused(("a", "out"), ("a", "out")), refusal(DuplicateLine, 1))
        self.assertEqual(self.refused(("a", "b"), ("p", "a"), ("b", "out"), ("p", "a"), ("a", "b")),
                         refusal(DuplicateLine, 3))

    def test_within_a_line_the_first_error_counts(self):
        self.assertEqual(self.refused(("out", "x")), refusal(UnknownNode, "x"))
        self.assertEqual(self.refused(("x", "q")), refusal(UnknownNode, "x"))
        self.assertEqual(self.refused(("out", "q")), refusal(BadLineEnd, "out"))

    def test_line_by_line_the_first_error_counts(self):
        wrong = ((("x", "out"), refusal(UnknownNode, "x")), (("out", "b"), refusal(BadLineEnd, "out")),
                 (("a", "q"), refusal(BadLineEnd, "q")), (("a", "b"), refusal(DuplicateLine, 1)))
        for (line, error), (other, _) in itertools.permutations(wrong, 2):
            self.assertEqual(self.refused(("a", "b"), line, other), error)

    def test_the_index_of_a_duplicate_counts_all_lines(self):
        lines = [("p", "a"), ("q", "a"), ("a", "b"), ("b", "out"), ("q", "a")]
        self.assertEqual(self.refused(*lines), refusal(DuplicateLine, 4))


class TestRings(unittest.TestCase):
    def refused(self, names, *lines):
        return refused(check_net, buses(names) + [OUT], list(lines))

    def test_rings_of_one_two_and_more_nodes(self):
        self.assertEqual(self.refused("a", ("a", "a")), refusal(Ring))
        self.assertEqual(self.refused("ab", ("a", "b"), ("b", "a")), refusal(Ring))
        self.assertEqual(self.refused("abc", ("a", "b"), ("b", "c"), ("c", "a")), refusal(Ring))
        names = "abcdefghij"
        ring = list(zip(names, names[1:] + names[0]))
        self.assertEqual(self.refused(names, *ring), refusal(Ring))
        self.assertIsNone(self.refused(names, *ring[:-1]))

    def test_a_ring_among_other_nodes(self):
        self.assertEqual(self.refused("abcd", ("a", "b"), ("b", "c"), ("c", "b"), ("c", "d"), ("d", "out")),
                         refusal(Ring))
        self.assertEqual(self.refused("abcd", ("a", "out"), ("b", "out"), ("c", "d"), ("d", "c")), refusal(Ring))

    def test_effects_with_frames_close_a_ring_too(self):
        for what in (("delay", 5, 0, 0), ("ahead", 5, 1), ("smooth", 1)):
            nodes = [("a", what), ("b", BUS), OUT]
            self.assertEqual(refused(check_net, nodes, [("a", "b"), ("b", "a")]), refusal(Ring))

    def test_a_ring_comes_last(self):
        ring = (("a", "b"), ("b", "a"))
        self.assertEqual(self.refused("ab", *ring, ("x", "a")), refusal(UnknownNode, "x"))
        self.assertEqual(self.refused("ab", *ring, ("out", "a")), refusal(BadLineEnd, "out"))
        self.assertEqual(self.refused("ab", *ring, ring[0]), refusal(DuplicateLine, 2))
        self.assertEqual(refused(check_net, buses("ab"), list(ring)), refusal(OneOutput))


class TestOrder(unittest.TestCase):
    def test_the_first_node_that_is_ready_comes_next(self):
        nodes = [OUT] + buses("dcba")
        self.assertEqual(order_of(nodes, []), ["out", "d", "c", "b", "a"])
        self.assertEqual(order_of(nodes, [("d", "c"), ("c", "b"), ("b", "a"), ("a", "out")]),
                         ["d", "c", "b", "a", "out"])
        self.assertEqual(order_of(nodes, [("a", "d"), ("b", "c")]), ["out", "b", "c", "a", "d"])
        self.assertEqual(order_of(nodes, [("a", "d"), ("a", "out")]), ["c", "b", "a", "out", "d"])
        self.assertEqual(order_of(nodes, [("c", "d")]), ["out", "c", "d", "b", "a"])

    def test_nodes_in_any_order(self):
        for nodes in itertools.permutations(NODES):
            self.assertEqual(order_of(list(nodes), LINES), ["a", "b", "out"])

    def test_the_order_of_the_lines_does_not_matter(self):
        nodes = buses("abcd") + [OUT]
        lines = [("d", "b"), ("a", "b"), ("c", "out"), ("b", "out")]
        for row in itertools.permutations(lines):
            self.assertEqual(order_of(nodes, list(row)), ["a", "c", "d", "b", "out"])

    def test_no_nodes(self):
        self.assertEqual(order_of([], []), [])

    def test_nodes_on_a_ring_and_behind_one_are_left_out(self):
        nodes = buses("abcdef") + [OUT]
        self.assertEqual(order_of(nodes, [("a", "a")]), ["b", "c", "d", "e", "f", "out"])
        ring = [("b", "c"), ("c", "b")]
        self.assertEqual(order_of(nodes, ring), ["a", "d", "e", "f", "out"])
        self.assertEqual(order_of(nodes, ring + [("a", "b"), ("c", "d"), ("d", "e"), ("f", "e")]), ["a", "f", "out"])
        self.assertEqual(order_of(nodes, ring + [("a", "out"), ("b", "out")]), ["a", "d", "e", "f"])
        self.assertEqual(order_of(buses("ab"), [("a", "b"), ("b", "a")]), [])

    def test_lines_with_unknown_names(self):
        nodes = buses("abc") + [OUT]
        # A node behind an input that is no node never has all of its inputs in the list.
        self.assertEqual(order_of(nodes, [("x", "a"), ("a", "b")]), ["c", "out"])
        self.assertEqual(order_of(nodes, [("a", "x"), ("x", "y"), ("b", "a")]), ["b", "a", "c", "out"])

    def test_a_line_twice(self):
        nodes = buses("ba") + [OUT]
        self.assertEqual(order_of(nodes, [("a", "b"), ("a", "b"), ("b", "out")]), ["a", "b", "out"])

    def test_a_name_twice(self):
        self.assertEqual(order_of(buses("aba"), [("b", "a")]), ["b", "a"])
        self.assertEqual(order_of(buses("aba"), []), ["a", "b"])

    def test_random_nets_also_with_rings(self):
        rng = random.Random(53)
        for _ in range(300):
            nodes = buses(rng.sample("abcdefgh", rng.randint(1, 8)))
            pairs = [(first, second) for first, _ in nodes for second, _ in nodes]
            lines = rng.sample(pairs, rng.randint(0, min(len(pairs), 9)))
            self.assertEqual(order_of(nodes, lines), told_order(nodes, lines))

    def test_a_long_net(self):
        names = ["".join(row) for row in itertools.product("abcdefgh", repeat=4)]
        nodes = buses(reversed(names))
        self.assertEqual(order_of(nodes, list(zip(names, names[1:]))), names)
        self.assertEqual(order_of(nodes, [(names[0], name) for name in names[1:]]), [names[0]] + names[:0:-1])


class TestInputs(unittest.TestCase):
    def test_in_the_order_of_the_lines(self):
        lines = [("c", "d"), ("a", "b"), ("a", "d"), ("d", "e"), ("b", "d")]
        self.assertEqual(inputs_of(lines, "d"), ["c", "a", "b"])
        self.assertEqual(inputs_of(lines, "b"), ["a"])

    def test_no_inputs(self):
        self.assertEqual(inputs_of([("a", "b")], "a"), [])
        self.assertEqual(inputs_of([("a", "b")], "x"), [])
        self.assertEqual(inputs_of([], "a"), [])


class TestArrivals(unittest.TestCase):
    def test_two_ways_arrive_together(self):
        nodes = [("a", PLAY), ahead("b", 2), ahead("c", 5), OUT]
        lines = [("a", "b"), ("a", "c"), ("b", "out"), ("c", "out"), ("a", "out")]
        self.assertEqual(arrivals(nodes, lines), {"a": 0, "b": 0, "c": 0, "out": 5})
        self.assertEqual(made_up(nodes, lines), [0, 0, 3, 0, 5])
        self.assertEqual(whole_latency(nodes, lines), 5)

    def test_latencies_behind_latencies(self):
        nodes = [OUT, ahead("c", 32), ahead("b", 7), ahead("a", 1)]
        lines = [("b", "c"), ("c", "out"), ("a", "b"), ("a", "c"), ("a", "out")]
        self.assertEqual(arrivals(nodes, lines), {"a": 0, "b": 1, "c": 8, "out": 40})
        self.assertEqual(made_up(nodes, lines), [0, 0, 0, 7, 39])
        self.assertEqual(whole_latency(nodes, lines), 40)

    def test_the_delays_stand_where_the_ways_meet(self):
        nodes = [("a", PLAY), ahead("b", 4), ("c", BUS), ("d", BUS), OUT]
        lines = [("a", "b"), ("a", "c"), ("c", "d"), ("b", "d"), ("d", "out"), ("c", "out")]
        self.assertEqual(made_up(nodes, lines), [0, 0, 4, 0, 0, 4])

    def test_only_an_effect_that_looks_ahead_has_a_latency(self):
        for what in (("pass",), ("gain", ((0, 1),)), ("delay", 9, 1, 1), ("smooth", 8), BUS, PLAY):
            nodes = [("p", BUS), ("a", what), OUT]
            lines = [("a", "out"), ("p", "out")]
            self.assertEqual(arrivals(nodes, lines), {"p": 0, "a": 0, "out": 0})
            self.assertEqual(made_up(nodes, lines), [0, 0])
            self.assertEqual(whole_latency(nodes, lines), 0)

    def test_nodes_without_inputs(self):
        self.assertEqual(arrivals([OUT], []), {"out": 0})
        self.assertEqual((made_up([OUT], []), whole_latency([OUT], [])), ([], 0))
        nodes = [ahead("a", 3), ("b", BUS), ahead("c", 9), OUT]
        self.assertEqual(arrivals(nodes, [("a", "b")]), {"a": 0, "b": 3, "c": 0, "out": 0})
        self.assertEqual(whole_latency(nodes, [("a", "b")]), 0)
        self.assertEqual(whole_latency(nodes, [("a", "b"), ("b", "out"), ("c", "out")]), 9)

    def test_random_nets(self):
        rng = random.Random(55)
        for _ in range(200):
            _, _, nodes, lines = random_parts(rng)
            reached = {name: told_arrival(nodes, lines, name) for name, _ in nodes}
            self.assertEqual(arrivals(nodes, lines), reached)
            self.assertEqual(made_up(nodes, lines), told_delays(nodes, lines))
            self.assertEqual(whole_latency(nodes, lines), [reached[name] for name, what in nodes if what == OUT[1]][0])


class TestArriveBy(unittest.TestCase):
    def setUp(self):
        self.nodes = [("a", PLAY), ahead("b", 2), OUT]
        self.lines = [("a", "b"), ("a", "out"), ("b", "out")]

    def arrive_by(self, *delays):
        return arrive_by(self.nodes, self.lines, list(delays))

    def test_the_least_delays(self):
        self.assertEqual(self.arrive_by(0, 2, 0), {"a": 0, "b": 0, "out": 2})

    def test_greater_delays(self):
        self.assertEqual(self.arrive_by(3, 5, 0), {"a": 0, "b": 3, "out": 5})
        self.assertEqual(self.arrive_by(0, 6, 4), {"a": 0, "b": 0, "out": 6})
        self.assertEqual(self.arrive_by(1, 10 ** 30 + 4, 10 ** 30 + 1), {"a": 0, "b": 1, "out": 10 ** 30 + 4})

    def test_delays_that_do_not_keep_it_together(self):
        for delays in ((0, 0, 0), (0, 1, 0), (0, 3, 0), (1, 2, 0), (0, 2, 1), (5, 5, 5)):
            self.assertIsNone(self.arrive_by(*delays))

    def test_delays_below_0(self):
        self.assertIsNone(self.arrive_by(-1, 1, 0))
        self.assertIsNone(self.arrive_by(0, 1, -1))
        self.assertIsNone(self.arrive_by(-2, 0, 0))
        self.assertIsNone(arrive_by([("a", BUS), ("b", BUS), OUT], [("a", "b")], [-1]))

    def test_all_inputs_are_compared(self):
        nodes = buses("abc") + [OUT]
        lines = [("a", "out"), ("b", "out"), ("c", "out")]
        self.assertEqual(arrive_by(nodes, lines, [4, 4, 4]), {"a": 0, "b": 0, "c": 0, "out": 4})
        for delays in ([4, 4, 5], [4, 5, 4], [5, 4, 4], [4, 5, 6]):
            self.assertIsNone(arrive_by(nodes, lines, delays))

    def test_a_node_that_does_not_reach_the_output_counts_too(self):
        nodes = buses("abc") + [OUT]
        self.assertIsNone(arrive_by(nodes, [("a", "c"), ("b", "c"), ("a", "out")], [1, 2, 0]))
        self.assertEqual(arrive_by(nodes, [("a", "c"), ("b", "c"), ("a", "out")], [2, 2, 0]),
                         {"a": 0, "b": 0, "c": 2, "out": 0})

    def test_no_lines(self):
        self.assertEqual(arrive_by([("a", BUS), OUT], [], []), {"a": 0, "out": 0})

    def test_whatever_keeps_a_net_together_is_not_earlier(self):
        rng = random.Random(56)
        for _ in range(200):
            _, _, nodes, lines = random_parts(rng)
            least = arrivals(nodes, lines)
            self.assertEqual(arrive_by(nodes, lines, made_up(nodes, lines)), least)
            # Each node is kept back by some frames behind the least frame that its inputs allow.
            reached = {}
            for name in told_order(nodes, lines):
                inputs = [reached[first] + told_latency(nodes, first) for first, second in lines if second == name]
                reached[name] = max(inputs) + rng.randint(0, 3) if inputs else 0
                self.assertGreaterEqual(reached[name], least[name])
            delays = [reached[second] - reached[first] - told_latency(nodes, first) for first, second in lines]
            self.assertEqual(arrive_by(nodes, lines, delays), reached)
            for index in range(len(delays)):
                other = delays[:index] + [delays[index] + 1] + delays[index + 1:]
                self.assertEqual(arrive_by(nodes, lines, other) is not None, self.together(nodes, lines, other))

    def together(self, nodes, lines, delays):
        """Whether the delays keep a net together, as point 5.6 tells it."""
        reached = {}
        for name in told_order(nodes, lines):
            frames = {reached[first] + told_latency(nodes, first) + delay
                      for (first, second), delay in zip(lines, delays) if second == name} or {0}
            if len(frames) > 1:
                return False
            reached[name] = frames.pop()
        return True


if __name__ == "__main__":
    unittest.main()
