"""Points 1.3, 1.4 and 1.5, and the interface of everyblock.tempo."""

import copy
import inspect
import math
import unittest
from fractions import Fraction

from everyblock import tempo as tempo_module
from everyblock.errors import BadTempo, SoundError
from everyblock.tempo import check_tempo, frame_of, tick_at

NO_INTEGERS = (True, False, None, "", "1", [], [1], (), (1,))
MAPS = (
    [(0, 1, 1)],
    [(0, 1, 100)],
    [(0, 1000, 1)],
    [(0, 5, 2), (3, 1, 3)],
    [(0, 1, 3), (1, 1, 3), (2, 1, 3)],
    [(0, 999, 100), (1, 1, 97), (2, 7, 9), (5, 13, 7), (30, 1000, 99)],
    [(0, 1, 100), (250, 3, 2), (251, 1, 89), (400, 2, 3)],
    [(tick * 3, tick + 1, 85 + tick) for tick in range(16)],
)


def ascending(many):
    return [(tick, 1, 1) for tick in range(many)]


def exact_time(tempo, tick):
    """The sum that point 1.4 tells, tick by tick."""
    total = Fraction(0)
    for at in range(tick):
        _, numerator, denominator = [entry for entry in tempo if entry[0] <= at][-1]
        total += Fraction(numerator, denominator)
    return total


class TestInterface(unittest.TestCase):
    def test_functions_have_these_arguments_and_stand_in_this_file(self):
        expected = {"check_tempo": ["tempo"], "frame_of": ["tempo", "tick"], "tick_at": ["tempo", "frame"]}
        for name, parameters in expected.items():
            function = getattr(tempo_module, name)
            self.assertEqual(list(inspect.signature(function).parameters), parameters, name)
            self.assertEqual(function.__module__, "everyblock.tempo")

    def test_examples(self):
        tempo = [(0, 5, 2), (3, 1, 3)]
        self.assertEqual([frame_of(tempo, tick) for tick in range(8)], [0, 2, 5, 7, 7, 8, 8, 8])
        self.assertEqual(tick_at(tempo, 8), 5)

    def test_arguments_are_not_modified(self):
        for tempo in MAPS:
            before = copy.deepcopy(tempo)
            check_tempo(tempo)
            frame_of(tempo, 77)
            tick_at(tempo, 77)
            self.assertEqual(tempo, before)
        refused = [(0, 1, 1), [1, 1, 1], (0, [2], (3,))]
        before = copy.deepcopy(refused)
        with self.assertRaises(BadTempo):
            check_tempo(refused)
        self.assertEqual(refused, before)


class TestCheck(unittest.TestCase):
    def refuse(self, tempo, place):
        with self.assertRaises(SoundError) as context:
            check_tempo(tempo)
        error = context.exception
        self.assertEqual((error.__class__, error.word, error.place), (BadTempo, "BadTempo", place), tempo)

    def accept(self, tempo):
        self.assertIsNone(check_tempo(tempo), tempo)

    def test_maps(self):
        for tempo in MAPS:
            self.accept(tempo)

    def test_one_to_sixteen_entries(self):
        for many in range(1, 17):
            self.accept(ascending(many))
        for many in (0, 17, 18, 100):
            self.refuse(ascending(many), None)

    def test_the_number_of_entries_comes_before_the_entries(self):
        self.refuse([None] * 17, None)
        self.refuse([(5, 0, 0)] * 17, None)
        self.refuse([None] * 16, 0)

    def test_ends_of_the_ranges(self):
        for numerator in (1, 2, 999, 1000):
            self.accept([(0, numerator, 1)])
        for denominator in (1, 2, 99, 100):
            self.accept([(0, 1, denominator)])
        for tick in (1, 2, 999999, 1000000):
            self.accept([(0, 1, 1), (tick, 1000, 100)])

    def test_one_beyond_the_ranges(self):
        for number in (-1, 0, 1001, 10 ** 30):
            self.refuse([(0, number, 1)], 0)
            self.refuse([(0, 1, 1), (7, number, 1)], 1)
        for number in (-1, 0, 101, 10 ** 30):
            self.refuse([(0, 1, number)], 0)
            self.refuse([(0, 1, 1), (7, 1, number)], 1)
        for number in (-1, 1000001, 10 ** 30):
            self.refuse([(number, 1, 1)], 0)
            self.refuse([(0, 1, 1), (number, 1, 1)], 1)

    def test_the_first_tick_is_0(self):
        for tick in (1, 2, 1000000):
            self.refuse([(tick, 1, 1)], 0)
            self.refuse([(tick, 1, 1), (tick + 1, 1, 1)], 0)

    def test_ticks_ascend(self):
        self.refuse([(0, 1, 1), (0, 1, 1)], 1)
        self.refuse([(0, 1, 1), (5, 1, 1), (5, 2, 1)], 2)
        self.refuse([(0, 1, 1), (5, 1, 1), (4, 1, 1)], 2)
        self.refuse([(0, 1, 1), (5, 1, 1), (0, 1, 1)], 2)
        self.refuse([(0, 1, 1), (5, 1, 1), (9, 1, 1), (6, 1, 1)], 3)
        self.refuse([(0, 1, 1), (1000000, 1, 1), (1000000, 1, 1)], 2)
        self.refuse([(0, 1, 1), (1000000, 1, 1), (1000001, 1, 1)], 2)

    def test_other_kinds_of_values_in_each_item(self):
        for value in NO_INTEGERS:
            for item in range(3):
                first = [0, 1, 1]
                first[item] = value
                self.refuse([tuple(first)], 0)
                second = [7, 1, 1]
                second[item] = value
                self.refuse([(0, 1, 1), tuple(second)], 1)

    def test_true_is_not_1_and_false_is_not_0(self):
        self.refuse([(False, 1, 1)], 0)
        self.refuse([(0, True, 1)], 0)
        self.refuse([(0, 1, True)], 0)
        self.refuse([(0, 1, 1), (True, 1, 1)], 1)

    def test_what_is_no_tuple_of_three(self):
        bad = ((), (1,), (1, 1), (1, 1, 1, 1), [1, 1, 1], [], None, True, False, 0, 1, "", "abc", "111",
               ((1, 1, 1),), ((1,), (1,), (1,)), [(1, 1, 1)])
        for entry in bad:
            self.refuse([entry], 0)
            self.refuse([(0, 1, 1), entry], 1)
            self.refuse([(0, 1, 1), entry, (2, 1, 1)], 1)
        self.refuse([(0, 1)], 0)
        self.refuse([[0, 1, 1]], 0)
        self.refuse([(0, 1, 1, 1)], 0)

    def test_the_first_bad_entry_is_told(self):
        self.refuse([(0, 1, 1), (3, 1, 0), (2, 1, 1), None], 1)
        self.refuse([(0, 1, 1), (3, 1, 1), (2, 1, 1), None], 2)
        self.refuse([(0, 0, 1), (0, 1, 1)], 0)
        for place in range(16):
            tempo = ascending(16)
            tempo[place] = None
            self.refuse(tempo, place)
            tempo[place:] = [None] * (16 - place)
            self.refuse(tempo, place)


class TestFrames(unittest.TestCase):
    def test_the_exact_sum_is_rounded_down_once(self):
        for tempo in MAPS:
            for tick in range(60):
                self.assertEqual(frame_of(tempo, tick), math.floor(exact_time(tempo, tick)), (tempo, tick))

    def test_thirds_over_several_entries_add_up(self):
        tempo = [(0, 1, 3), (1, 1, 3), (2, 1, 3)]
        self.assertEqual([frame_of(tempo, tick) for tick in range(7)], [0, 0, 0, 1, 1, 1, 2])

    def test_an_entry_lasts_up_to_the_next_tick(self):
        tempo = [(0, 10, 1), (2, 100, 1), (4, 1, 1)]
        self.assertEqual([frame_of(tempo, tick) for tick in range(7)], [0, 10, 20, 120, 220, 221, 222])

    def test_the_last_entry_has_no_end(self):
        tempo = [(0, 1000, 1), (1000000, 1, 3)]
        self.assertEqual(frame_of(tempo, 1000000), 10 ** 9)
        self.assertEqual(frame_of(tempo, 1000000 + 3 * 10 ** 40 + 2), 10 ** 9 + 10 ** 40)
        self.assertEqual(frame_of(tempo, 1000000 + 3 * 10 ** 40 + 3), 10 ** 9 + 10 ** 40 + 1)

    def test_sixteen_denominators_stay_exact(self):
        denominators = (64, 81, 25, 49, 97, 89, 83, 79, 73, 71, 67, 61, 59, 53, 47, 43)
        tempo = [(at * 50000, 1, denominator) for at, denominator in enumerate(denominators)]
        check_tempo(tempo)
        total = Fraction(0)
        for at, denominator in enumerate(denominators):
            self.assertEqual(frame_of(tempo, at * 50000), math.floor(total))
            if at < 15:
                total += Fraction(50000, denominator)
        # Such a tick that the sum is a whole number: one tick before it is still below.
        whole = math.ceil(total) + 1
        ticks = math.ceil((whole - total) * 43)
        self.assertEqual(frame_of(tempo, 750000 + ticks), whole)
        self.assertEqual(frame_of(tempo, 750000 + ticks - 1), whole - 1)

    def test_the_frame_of_the_tick_0_is_0(self):
        for tempo in MAPS:
            self.assertEqual(frame_of(tempo, 0), 0)


class TestTicks(unittest.TestCase):
    def test_the_first_tick_whose_frame_is_not_before(self):
        for tempo in MAPS:
            frames = [math.floor(exact_time(tempo, tick)) for tick in range(420)]
            for frame in range(min(frames[-1], 120) + 1):
                expected = [tick for tick, at in enumerate(frames) if at >= frame][0]
                self.assertEqual(tick_at(tempo, frame), expected, (tempo, frame))

    def test_of_several_ticks_at_one_frame_the_first_one(self):
        tempo = [(0, 1, 4)]
        self.assertEqual([tick_at(tempo, frame) for frame in range(4)], [0, 4, 8, 12])

    def test_a_frame_between_two_ticks_has_the_later_one(self):
        tempo = [(0, 4, 1)]
        self.assertEqual([tick_at(tempo, frame) for frame in range(10)], [0, 1, 1, 1, 1, 2, 2, 2, 2, 3])

    def test_at_the_border_of_two_entries(self):
        tempo = [(0, 10, 1), (2, 1, 2)]
        self.assertEqual([tick_at(tempo, frame) for frame in (10, 11, 19, 20, 21, 22)], [1, 2, 2, 2, 4, 6])

    def test_the_frame_0_has_the_tick_0(self):
        for tempo in MAPS:
            self.assertEqual(tick_at(tempo, 0), 0)

    def test_huge_frames(self):
        tempo = [(0, 1000, 1), (1000000, 1, 3)]
        self.assertEqual(tick_at(tempo, 10 ** 9), 1000000)
        self.assertEqual(tick_at(tempo, 10 ** 9 + 10 ** 40), 1000000 + 3 * 10 ** 40)
        for tempo in MAPS:
            for frame in (10 ** 6 + 7, 10 ** 25 + 1, 10 ** 40):
                tick = tick_at(tempo, frame)
                self.assertGreaterEqual(frame_of(tempo, tick), frame)
                self.assertLess(frame_of(tempo, tick - 1), frame)


if __name__ == "__main__":
    unittest.main()
