"""Points 2.1 to 2.7, and the interface of everyblock.instruments."""

import copy
import math
import random
import unittest
from fractions import Fraction

from checks import NO_INTEGERS, deep, refusal, refused, stand_in, with_item
from told import told_sample

from everyblock import instruments
from everyblock.errors import BadInstrument
from everyblock.instruments import (TOP_STEPS, attack_level, check_instrument, phase_step, release_level,
                                    voice_sample, wave)

STEPS = ("steps", 3, 4, (5, -6, 7))
FLAT = ("steps", 0, 0, (8000,))


class TestInterface(unittest.TestCase):
    def test_functions_stand_in_this_file(self):
        self.assertIs(stand_in(instruments, {
            "check_instrument": "(instrument)", "phase_step": "(pitch)", "wave": "(instrument, phase)",
            "attack_level": "(instrument, since)", "release_level": "(instrument, since)",
            "voice_sample": "(instrument, event, frame)",
        }), True)

    def test_top_steps(self):
        self.assertEqual(TOP_STEPS, (11430, 12110, 12830, 13593, 14402, 15258,
                                     16165, 17127, 18145, 19224, 20367, 21578))
        self.assertIsInstance(TOP_STEPS, tuple)

    def test_examples(self):
        self.assertEqual(voice_sample(("square", 0, 0), (10, 12, 60, 127), 11), 8388607)
        self.assertEqual(voice_sample(("square", 0, 0), (10, 12, 60, 127), 12), 0)

    def test_arguments_are_not_modified(self):
        refused_one = ("steps", 0, 0, [1, [2]])
        before = copy.deepcopy(refused_one)
        self.assertEqual(refused(check_instrument, refused_one), refusal(BadInstrument, 3))
        self.assertEqual(refused_one, before)


class TestCheck(unittest.TestCase):
    def test_the_three_forms(self):
        for instrument in (("saw", 0, 0), ("square", 1000, 1000), ("steps", 0, 1000, (0,)), STEPS):
            self.assertIsNone(check_instrument(instrument))

    def test_fewer_than_three_items(self):
        for instrument in ((), ("saw",), ("saw", 0), ("steps",), ("steps", 0), (None,), (None, None), ("word", -1)):
            self.assertEqual(refused(check_instrument, instrument), refusal(BadInstrument))

    def test_the_first_item_is_one_of_three_words(self):
        for word in ("", "Saw", "saw ", "step", "stepss", "squares", "sine", None, True, False, 0, 1, (), [], ("saw",),
                     ["saw"], deep()):
            for rest in ((0, 0), (0, 0, (1,)), (-1, None), (0, 0, 0, 0, 0)):
                self.assertEqual(refused(check_instrument, (word,) + rest), refusal(BadInstrument, 0))

    def test_three_items_or_four_for_steps(self):
        for instrument in (("saw", 0, 0, 0), ("saw", 0, 0, (1,)), ("square", 0, 0, (1,)), ("steps", 0, 0),
                           ("steps", 0, 0, (1,), 0), ("saw", 0, 0, 0, 0), ("saw", -1, -1, -1), ("steps", None, None)):
            self.assertEqual(refused(check_instrument, instrument), refusal(BadInstrument))

    def test_ramps_from_0_to_1000(self):
        for instrument in (("saw", 5, 5), ("square", 5, 5), STEPS):
            for place in (1, 2):
                for frames in (0, 1, 999, 1000):
                    self.assertIsNone(check_instrument(with_item(instrument, place, frames)))
                for frames in (-1, 1001, -10 ** 30, 10 ** 30) + NO_INTEGERS + (deep(),):
                    self.assertEqual(refused(check_instrument, with_item(instrument, place, frames)),
                                     refusal(BadInstrument, place))

    def test_a_row_has_1_to_64_items(self):
        for many in (1, 2, 63, 64):
            self.assertIsNone(check_instrument(("steps", 0, 0, (7,) * many)))
        for many in (0, 65, 66, 1000):
            self.assertEqual(refused(check_instrument, ("steps", 0, 0, (7,) * many)), refusal(BadInstrument, 3))

    def test_a_row_is_a_tuple(self):
        for row in ([], [1], None, True, 0, 1, "", "a", deep()):
            self.assertEqual(refused(check_instrument, ("steps", 0, 0, row)), refusal(BadInstrument, 3))

    def test_the_items_of_a_row_are_samples(self):
        for sample in (-8388608, -8388607, -1, 0, 1, 8388606, 8388607):
            self.assertIsNone(check_instrument(("steps", 0, 0, (0, sample))))
        for sample in (-8388609, 8388608, 10 ** 30) + NO_INTEGERS + (deep(),):
            for place in (0, 1, 63):
                row = with_item((0,) * 64, place, sample)
                self.assertEqual(refused(check_instrument, ("steps", 0, 0, row)), refusal(BadInstrument, 3))

    def test_the_first_error_in_the_order_of_the_point(self):
        self.assertEqual(refused(check_instrument, ("saw", -1, -1)), refusal(BadInstrument, 1))
        self.assertEqual(refused(check_instrument, ("steps", -1, -1, ())), refusal(BadInstrument, 1))
        self.assertEqual(refused(check_instrument, ("steps", 0, -1, ())), refusal(BadInstrument, 2))
        self.assertEqual(refused(check_instrument, ("steps", 0, 0, ())), refusal(BadInstrument, 3))


class TestPhase(unittest.TestCase):
    def test_steps_of_all_pitches(self):
        for pitch in range(128):
            self.assertEqual(phase_step(pitch), TOP_STEPS[pitch % 12] // 2 ** (10 - pitch // 12), pitch)

    def test_some_steps(self):
        self.assertEqual([phase_step(pitch) for pitch in (0, 1, 11, 12, 60, 69, 119, 120, 127)],
                         [11, 11, 21, 22, 357, 600, 10789, 11430, 17127])

    def test_pitches_somewhat_beyond_the_range_raise_no_error(self):
        for pitch in (-13, -12, -1, 128, 131, 132, 140, 150):
            self.assertEqual(phase_step(pitch), math.floor(TOP_STEPS[pitch % 12] / Fraction(2) ** (10 - pitch // 12)))
        self.assertEqual(voice_sample(("saw", 0, 0), (0, 9, 140, 127), 1), 256 * (phase_step(140) % 65536 - 32768))

    def test_a_voice_goes_through_its_wave_again_and_again(self):
        row = tuple(range(64))
        for pitch, start in ((0, 0), (60, 7), (127, 1000), (127, 10 ** 30)):
            event = (start, start + 10 ** 9, pitch, 127)
            for since in (0, 1, 2, 3, 4, 5, 100, 65535, 65536, 65537, 10 ** 8):
                expected = phase_step(pitch) * since % 65536 * 64 // 65536
                self.assertEqual(voice_sample(("steps", 0, 0, row), event, start + since), expected)


class TestWave(unittest.TestCase):
    def test_saw(self):
        for phase, sample in ((0, -8388608), (1, -8388352), (32767, -256), (32768, 0), (32769, 256), (65535, 8388352)):
            self.assertEqual(wave(("saw", 0, 0), phase), sample)

    def test_square(self):
        for phase, sample in ((0, 8388607), (1, 8388607), (32767, 8388607), (32768, -8388608), (65535, -8388608)):
            self.assertEqual(wave(("square", 0, 0), phase), sample)

    def test_rows_of_steps(self):
        self.assertEqual([wave(FLAT, phase) for phase in (0, 32767, 32768, 65535)], [8000] * 4)
        three = [wave(STEPS, phase) for phase in (0, 21845, 21846, 43690, 43691, 65535)]
        self.assertEqual(three, [5, 5, -6, -6, 7, 7])
        row = tuple(range(64))
        for index in range(64):
            for phase in (index * 1024, index * 1024 + 1023):
                self.assertEqual(wave(("steps", 0, 0, row), phase), index)


class TestLevels(unittest.TestCase):
    def test_attack_of_0_is_there_at_once(self):
        for since in (0, 1, 2, 10 ** 30):
            self.assertEqual(attack_level(("saw", 0, 5), since), 65536)

    def test_attack_rises(self):
        self.assertEqual([attack_level(("saw", 2, 0), since) for since in range(5)],
                         [21845, 43690, 65536, 65536, 65536])
        self.assertEqual([attack_level(("saw", 1000, 0), since) for since in (0, 1, 999, 1000, 1001)],
                         [65, 130, 65470, 65536, 65536])

    def test_release_before_the_end(self):
        for release in (0, 1, 1000):
            for since in (-1, -2, -10 ** 30):
                self.assertEqual(release_level(("saw", 5, release), since), 65536)

    def test_release_falls(self):
        self.assertEqual([release_level(("saw", 0, 2), since) for since in (-1, 0, 1, 2, 3)],
                         [65536, 43690, 21845, 0, 0])
        self.assertEqual([release_level(("saw", 0, 0), since) for since in (-1, 0, 1)], [65536, 0, 0])
        self.assertEqual([release_level(("saw", 0, 1000), since) for since in (0, 1, 999, 1000, 10 ** 30)],
                         [65470, 65405, 65, 0, 0])


class TestVoice(unittest.TestCase):
    def test_a_voice_sounds_from_its_start_up_to_the_frame_before_end_and_release(self):
        flat = ("steps", 0, 3, (6553600,))
        self.assertEqual([voice_sample(flat, (5, 7, 60, 127), frame) for frame in range(12)],
                         [0, 0, 0, 0, 0, 6553600, 6553600, 4915200, 3276800, 1638400, 0, 0])

    def test_no_frames_of_its_own(self):
        for frame in range(5):
            self.assertEqual(voice_sample(FLAT, (2, 2, 60, 127), frame), 0)
        self.assertEqual([voice_sample(("steps", 0, 1, (8000,)), (2, 2, 60, 127), frame) for frame in range(5)],
                         [0, 0, 4000, 0, 0])

    def test_the_release_goes_on_from_an_attack_that_is_not_complete(self):
        # Levels: 65536 * 1 // 4 = 16384, then 32768 * (2 of 3 = 43690) // 65536 = 21845, then 49152 * 21845 // 65536.
        flat = ("steps", 3, 2, (65536,))
        self.assertEqual([voice_sample(flat, (0, 1, 60, 127), frame) for frame in range(5)],
                         [16384, 21845, 16383, 0, 0])

    def test_the_strength_is_divided_by_127_and_rounded_down(self):
        for sample, strength, expected in ((100, 127, 100), (100, 126, 99), (-100, 126, -100), (1, 1, 0), (-1, 1, -1),
                                           (127, 1, 1), (-128, 1, -2), (8388607, 64, 4227329)):
            self.assertEqual(voice_sample(("steps", 0, 0, (sample,)), (0, 1, 60, strength), 0), expected)

    def test_the_level_is_a_gain_that_rounds_halves_up(self):
        half = ("steps", 1, 0, (3,))
        self.assertEqual(voice_sample(half, (0, 9, 60, 127), 0), 2)
        self.assertEqual(voice_sample(("steps", 1, 0, (-3,)), (0, 9, 60, 127), 0), -1)

    def test_both_ends_of_the_samples_stay(self):
        self.assertEqual(voice_sample(("saw", 0, 0), (0, 1, 60, 127), 0), -8388608)
        self.assertEqual(voice_sample(("square", 0, 0), (0, 1, 60, 127), 0), 8388607)
        self.assertEqual(voice_sample(("steps", 0, 0, (-8388608,)), (0, 1, 0, 127), 0), -8388608)

    def test_ramps_of_1000(self):
        event = (500, 1500, 60, 127)
        for frame in (499, 500, 501, 1499, 1500, 1501, 2499, 2500, 2501):
            instrument = ("square", 1000, 1000)
            self.assertEqual(voice_sample(instrument, event, frame), told_sample(instrument, event, frame))
        self.assertEqual(voice_sample(("square", 1000, 1000), event, 2500), 0)

    def test_random_voices(self):
        rng = random.Random(29)
        for _ in range(300):
            word = rng.choice(("saw", "square", "steps"))
            ramps = (rng.choice((0, 1, 2, 5, 1000)), rng.choice((0, 1, 2, 5, 1000)))
            row = tuple(rng.randint(-8388608, 8388607) for _ in range(rng.randint(1, 64)))
            instrument = (word,) + ramps + ((row,) if word == "steps" else ())
            start = rng.choice((0, 3, 1000, 10 ** 12))
            event = (start, start + rng.randint(0, 30), rng.randint(0, 127), rng.randint(1, 127))
            for frame in range(max(0, start - 2), start + 45):
                self.assertEqual(voice_sample(instrument, event, frame), told_sample(instrument, event, frame))


if __name__ == "__main__":
    unittest.main()
