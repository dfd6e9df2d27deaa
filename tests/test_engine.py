"""Points 4.7, 4.8, 5.7 and 5.8, and the interface of everyblock.engine."""

import copy
import inspect
import random
import unittest

from projects import LINES, NODES, OUT, TEMPO, TRACK, example, flat_track, parts_of, random_parts
from told import told_delays, told_order, told_sound, told_sounds

from everyblock.engine import Engine
from everyblock.project import Project

EFFECTS = ("pass", "gain", "delay", "smooth", "ahead")


def some_blocks(rng, count):
    """Sizes of blocks that make up this count."""
    sizes = []
    while sum(sizes) < count:
        sizes.append(min(rng.choice((0, 1, 1, 2, 3, 8, 40)), count - sum(sizes)))
    return sizes


def in_blocks(engine, sizes):
    """The samples of all blocks, and the frames of the engine behind each one."""
    samples, frames = [], []
    for size in sizes:
        samples += engine.process(size)
        frames.append(engine.frame)
    return samples, frames


class TestInterface(unittest.TestCase):
    def test_the_class_stands_in_this_file_with_its_methods(self):
        self.assertEqual(Engine.__module__, "everyblock.engine")
        self.assertEqual(str(inspect.signature(Engine)), "(project)")
        for name, parameters in (("process", "(self, count)"), ("state", "(self)"),
                                 ("restore", "(self, frame, state)")):
            self.assertEqual(str(inspect.signature(vars(Engine)[name])), parameters)

    def test_the_frame_is_set_from_the_beginning_on(self):
        engine = Engine(example())
        self.assertEqual(vars(engine)["frame"], 0)
        self.assertIs(engine.frame.__class__, int)

    def test_the_project_is_not_modified_and_lists_are_new(self):
        project = example()
        before = copy.deepcopy(parts_of(project))
        engine = Engine(project)
        found = engine.process(4)
        self.assertEqual(found, [0, 0, 12000, 12000])
        found.clear()
        self.assertEqual(engine.process(2), [12000, 0])
        self.assertEqual(parts_of(project), before)

    def test_it_does_not_depend_on_lists_of_the_project(self):
        tracks = [TRACK]
        project = Project(TEMPO, tracks, NODES, LINES)
        engine = Engine(project)
        tracks.clear()
        project.tracks.clear()
        self.assertEqual(engine.process(4), [0, 0, 12000, 12000])


class TestBlocks(unittest.TestCase):
    def test_the_frame_goes_on_by_the_count(self):
        engine = Engine(example())
        self.assertEqual(in_blocks(engine, [3, 0, 1, 10]), ([0, 0, 12000, 12000, 12000] + [0] * 9, [3, 3, 4, 14]))

    def test_blocks_of_0_frames_change_nothing(self):
        engine = Engine(example())
        for _ in range(4):
            state = engine.state()
            self.assertEqual(engine.process(0), [])
            self.assertEqual(engine.state(), state)
            engine.process(1)
        self.assertEqual(engine.frame, 4)

    def test_blocks_of_1_frame(self):
        engine = Engine(example())
        self.assertEqual([engine.process(1) for _ in range(6)], [[0], [0], [12000], [12000], [12000], [0]])

    def test_one_block_and_many_give_the_told_sound(self):
        rng = random.Random(58)
        for _ in range(150):
            parts = random_parts(rng)
            expected = told_sound(*parts, 50)
            project = Project(*parts)
            self.assertEqual(in_blocks(Engine(project), [50]), (expected, [50]))
            self.assertEqual(in_blocks(Engine(project), [1] * 50)[0], expected)
            self.assertEqual(in_blocks(Engine(project), some_blocks(rng, 50))[0], expected)

    def test_engines_of_one_project_do_not_disturb_each_other(self):
        project = example()
        one, other = Engine(project), Engine(project)
        one.process(4)
        self.assertEqual(other.process(3), [0, 0, 12000])
        self.assertEqual(one.process(2), [12000, 0])
        self.assertEqual(other.process(2), [12000, 12000])

    def test_a_late_frame_is_as_quick_as_an_early_one(self):
        late = 10 ** 5
        project = Project([(0, 1000, 1)], [flat_track("t", 5000, (late, 1))], NODES[:1] + [OUT], [("a", "out")])
        engine = Engine(project)
        engine.restore(10 ** 8 - 1, engine.state())
        self.assertEqual(engine.process(3), [0, 5000, 5000])
        self.assertEqual(engine.frame, 10 ** 8 + 2)


class TestState(unittest.TestCase):
    def test_the_example(self):
        engine = Engine(example())
        self.assertEqual(engine.state(), (((0, 0),), ((), (0, 0), ())))
        engine.process(1)
        self.assertEqual(engine.state(), (((0, 8000),), ((), (0, 8000), ())))
        engine.process(3)
        self.assertEqual(engine.state(), (((8000, 0),), ((), (8000, 0), ())))

    def test_effects_are_in_the_order_of_the_net_and_lines_in_their_own(self):
        track = flat_track("t", 64, (0, 1))
        nodes = [OUT, ("s", ("smooth", 1)), ("d", ("delay", 2, 65536, 0)), ("g", ("gain", ((0, 1),))),
                 ("l", ("ahead", 3, 9)), ("b", ("bus",)), ("p", ("pass",)), ("t", ("track", "t"))]
        lines = [("l", "out"), ("t", "out"), ("d", "s"), ("t", "d"), ("s", "out"), ("t", "l"), ("b", "out")]
        engine = Engine(Project(TEMPO, [track], nodes, lines))
        # The order is: g, b, p, t, d, s, l, out.
        self.assertEqual(engine.state(), (((), (), (0, 0), (0,), (0, 0, 0)),
                                          ((), (0, 0, 0), (), (), (0, 0, 0), (), (0, 0, 0))))
        engine.process(1)
        self.assertEqual(engine.state(), (((), (), (0, 64), (32,), (0, 0, 64)),
                                          ((), (0, 0, 64), (), (), (0, 0, 32), (), (0, 0, 0))))

    def test_only_effects_and_lines_have_a_state(self):
        engine = Engine(Project(TEMPO, [TRACK], [("a", ("track", "t")), ("b", ("bus",)), OUT], []))
        engine.process(2)
        self.assertEqual(engine.state(), ((), ()))

    def test_it_consists_of_tuples(self):
        engine = Engine(example())
        for _ in range(4):
            engine.process(1)
            state = engine.state()
            self.assertIs(state.__class__, tuple)
            self.assertEqual([part.__class__ for part in state], [tuple, tuple])
            self.assertEqual({one.__class__ for part in state for one in part}, {tuple})

    def test_what_was_returned_does_not_change(self):
        engine = Engine(example())
        state = engine.state()
        engine.process(3)
        self.assertEqual(state, (((0, 0),), ((), (0, 0), ())))

    def test_the_states_of_random_projects(self):
        rng = random.Random(59)
        for _ in range(60):
            parts = random_parts(rng)
            _, _, nodes, lines = parts
            sounds = told_sounds(*parts, 30)
            engine = Engine(Project(*parts))
            for size in (0, 1, 4, 25):
                engine.process(size)
                effects, waits = engine.state()
                names = [name for name in told_order(nodes, lines) if dict(nodes)[name][0] in EFFECTS]
                self.assertEqual(len(effects), len(names))
                for name, state in zip(names, effects):
                    what = dict(nodes)[name]
                    many = what[1] if what[0] in ("delay", "ahead") else 1 if what[0] == "smooth" else 0
                    self.assertEqual(len(state), many)
                on_way = [tuple(([0] * delay + sounds[first][:engine.frame])[-delay:]) if delay else ()
                          for (first, _), delay in zip(lines, told_delays(nodes, lines))]
                self.assertEqual(waits, tuple(on_way))


class TestRestore(unittest.TestCase):
    def test_into_a_new_one(self):
        engine = Engine(example())
        engine.process(3)
        other = Engine(example())
        self.assertIsNone(other.restore(3, engine.state()))
        self.assertEqual((other.frame, other.state()), (3, engine.state()))
        self.assertEqual(other.process(4), [12000, 12000, 0, 0])

    def test_into_one_that_was_elsewhere(self):
        engine = Engine(example())
        states = [engine.state()]
        for _ in range(7):
            engine.process(1)
            states.append(engine.state())
        for frame, state in list(enumerate(states)) + list(enumerate(states))[::-1]:
            engine.restore(frame, state)
            self.assertEqual((engine.frame, engine.state()), (frame, state))
            self.assertEqual(engine.process(3), ([0, 0, 12000, 12000, 12000] + [0] * 9)[frame:frame + 3])

    def test_at_frame_0(self):
        rest = Engine(example()).state()
        engine = Engine(example())
        engine.process(4)
        engine.restore(0, rest)
        self.assertEqual(engine.frame, 0)
        self.assertEqual(engine.process(6), [0, 0, 12000, 12000, 12000, 0])

    def test_to_the_frame_and_the_state_that_it_has(self):
        engine = Engine(example())
        engine.process(3)
        engine.restore(3, engine.state())
        self.assertEqual(engine.process(3), [12000, 12000, 0])

    def test_the_other_engine_goes_on_undisturbed(self):
        engine, other = Engine(example()), Engine(example())
        engine.process(3)
        other.restore(3, engine.state())
        other.process(2)
        self.assertEqual(engine.process(3), [12000, 12000, 0])

    def test_random_projects_from_any_frame_on(self):
        rng = random.Random(60)
        for _ in range(100):
            parts = random_parts(rng)
            expected = told_sound(*parts, 60)
            engine = Engine(Project(*parts))
            kept = [(0, engine.state())]
            for size in some_blocks(rng, 60):
                engine.process(size)
                kept.append((engine.frame, engine.state()))
            elsewhere = Engine(Project(*parts))
            for frame, state in [rng.choice(kept) for _ in range(4)] + kept[:1]:
                for other in (Engine(Project(*parts)), elsewhere, engine):
                    other.restore(frame, state)
                    self.assertEqual(in_blocks(other, some_blocks(rng, 60 - frame))[0], expected[frame:])


if __name__ == "__main__":
    unittest.main()
