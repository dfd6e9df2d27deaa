"""Points 4.7 and 4.8, and the class of everyblock.lines."""

import copy
import inspect
import random
import unittest

from checks import NO_INTEGERS, deep, refusal, refused, with_item

from everyblock import lines
from everyblock.errors import BadState
from everyblock.lines import DelayLine


class TestInterface(unittest.TestCase):
    def test_the_class_has_its_methods_in_its_own_body(self):
        self.assertEqual(DelayLine.__module__, "everyblock.lines")
        self.assertIs(lines.DelayLine, DelayLine)
        for name, parameters in (("__init__", "(self, frames)"), ("process", "(self, samples)"), ("state", "(self)"),
                                 ("restore", "(self, state)")):
            self.assertIn(name, vars(DelayLine))
            self.assertEqual(str(inspect.signature(vars(DelayLine)[name])), parameters)

    def test_samples_are_not_modified_and_lists_are_new(self):
        for frames in (0, 1, 5):
            line = DelayLine(frames)
            samples = [1, 2, 3]
            found = line.process(samples)
            found.append(9)
            samples.append(7)
            self.assertEqual(samples, [1, 2, 3, 7])
            following = line.process([0] * frames)
            self.assertEqual((found[:3] + following), [0] * frames + [1, 2, 3])


class TestProcess(unittest.TestCase):
    def test_samples_come_out_that_many_frames_later(self):
        self.assertEqual(DelayLine(1).process([1, 2, 3]), [0, 1, 2])
        self.assertEqual(DelayLine(2).process([1, 2, 3, 4]), [0, 0, 1, 2])
        self.assertEqual(DelayLine(64).process(list(range(1, 100))), [0] * 64 + list(range(1, 36)))

    def test_a_line_of_0_frames(self):
        line = DelayLine(0)
        self.assertEqual(line.process([5, -8388608, 8388607]), [5, -8388608, 8388607])
        self.assertEqual(line.state(), ())
        self.assertIsNone(line.restore(()))
        self.assertEqual(line.process([]), [])
        self.assertEqual(line.process([4]), [4])

    def test_blocks_of_any_sizes(self):
        rng = random.Random(41)
        for _ in range(200):
            frames = rng.choice((0, 1, 2, 3, 10, 200))
            samples = [rng.randint(-8388608, 8388607) for _ in range(60)]
            line = DelayLine(frames)
            given, at = [], 0
            while at < 60:
                count = rng.choice((0, 1, 2, 9, 40))
                given.extend(line.process(samples[at:at + count]))
                at += count
                self.assertEqual(line.state(), tuple(([0] * frames + samples[:at])[len(samples[:at]):]))
            self.assertEqual(given, ([0] * frames + samples)[:60])


class TestState(unittest.TestCase):
    def test_a_line_at_rest(self):
        for frames in (0, 1, 2, 1000):
            self.assertEqual(DelayLine(frames).state(), (0,) * frames)

    def test_what_is_on_the_way_with_the_oldest_first(self):
        line = DelayLine(3)
        line.process([1])
        self.assertEqual(line.state(), (0, 0, 1))
        line.process([2, 3, 4])
        self.assertEqual(line.state(), (2, 3, 4))
        line.process([])
        self.assertEqual(line.state(), (2, 3, 4))

    def test_saving_and_restoring_in_the_midst(self):
        line = DelayLine(3)
        line.process([1, 2, 3, 4, 5])
        state = line.state()
        other = DelayLine(3)
        other.process([9, 9])
        self.assertIsNone(other.restore(state))
        self.assertEqual(other.process([6, 7, 8, 9]), [3, 4, 5, 6])
        # The first line goes on by itself, and the state that was saved stays as it was.
        self.assertEqual(line.process([0, 0]), [3, 4])
        self.assertEqual(state, (3, 4, 5))
        self.assertIsNone(line.restore(state))
        self.assertEqual(line.process([0] * 4), [3, 4, 5, 0])

    def test_states_that_are_none(self):
        for frames in (0, 1, 2, 3):
            line = DelayLine(frames)
            line.process([7, 8, 9])
            kept = line.state()
            bad = [None, True, False, 0, 1, "", "abc"[:frames], list(kept), [], [kept], (kept,), kept + (0,),
                   (0,) * (frames + 2), (kept, kept), deep(), kept[1:] if frames else (0,)]
            for index in range(frames):
                bad.extend(with_item(kept, index, value) for value in
                           NO_INTEGERS + (-8388609, 8388608, 10 ** 30, deep()))
            for state in bad:
                if state == () and frames == 0:
                    continue
                self.assertEqual(refused(line.restore, state), refusal(BadState))
                self.assertEqual(line.state(), kept)
            self.assertEqual(line.process([0, 0, 0]), ([7, 8, 9][3 - frames:] + [0, 0, 0])[:3])

    def test_both_bounds_of_the_samples(self):
        line = DelayLine(2)
        self.assertIsNone(line.restore((-8388608, 8388607)))
        self.assertEqual(line.process([1, 1, 1]), [-8388608, 8388607, 1])

    def test_a_refused_state_is_not_modified(self):
        state = ([1], [2, [3]])
        before = copy.deepcopy(state)
        self.assertEqual(refused(DelayLine(2).restore, state), refusal(BadState))
        self.assertEqual(state, before)


if __name__ == "__main__":
    unittest.main()
