"""Points 4.1 to 4.7, and the interface of everyblock.effects."""

import copy
import inspect
import random
import unittest

from checks import NO_INTEGERS, deep, refusal, refused, stand_in, with_item
from told import told_delay, told_effect, told_smooth

from everyblock import effects
from everyblock.effects import check_effect, effect_of, latency_of
from everyblock.errors import BadEffect, BadPoint, BadState, SoundError

TEMPO = [(0, 1, 1)]
POINTS = ((0, 65536), (10, 0))
# An effect of each form, with the ends of what its numbers may be.
FORMS = (
    (("pass",), ()),
    (("delay", 5, 100, 200), ((1, 64), (0, 262144), (0, 262144))),
    (("smooth", 3), ((1, 8),)),
    (("ahead", 5, 100), ((1, 32), (1, 8388607))),
)
EFFECTS = (
    ("pass",), ("gain", POINTS), ("delay", 1, 0, 65536), ("delay", 3, 50000, 262144), ("delay", 64, 262144, 65536),
    ("smooth", 1), ("smooth", 8), ("ahead", 1, 1), ("ahead", 4, 8388607), ("ahead", 32, 500000),
)


def loud_samples(rng, many):
    kind = rng.choice((9, 2000, 8388608))
    return [rng.choice((0, rng.randint(-kind, kind - 1), -8388608 if kind > 9999 else -9, kind - 1))
            for _ in range(many)]


def told_state(spec, samples):
    """The state behind these samples, as point 4.7 tells it."""
    if spec[0] == "delay":
        return tuple(told_delay(*spec[1:], samples)[1][-spec[1]:])
    if spec[0] == "smooth":
        return tuple(told_smooth(spec[1], samples)[-1:]) if samples else (0,)
    if spec[0] == "ahead":
        return tuple(([0] * spec[1] + list(samples))[-spec[1]:])
    return ()


class TestInterface(unittest.TestCase):
    def test_functions_stand_in_this_file(self):
        self.assertIs(stand_in(effects, {
            "check_effect": "(spec)", "latency_of": "(spec)", "effect_of": "(spec, tempo)",
        }), True)

    def test_objects_have_their_methods_in_their_own_class(self):
        for spec in EFFECTS:
            kind = effect_of(spec, TEMPO).__class__
            self.assertEqual(kind.__module__, "everyblock.effects")
            for name, parameters in (("process", "(self, samples, moment)"), ("state", "(self)"),
                                     ("restore", "(self, state)")):
                self.assertIn(name, vars(kind))
                self.assertEqual(str(inspect.signature(vars(kind)[name])), parameters)

    def test_examples(self):
        self.assertEqual(effect_of(("delay", 2, 32768, 65536), TEMPO).process([100, 0, 0, 0, 0, 0], 0),
                         [100, 0, 100, 0, 50, 0])
        self.assertEqual(effect_of(("smooth", 1), TEMPO).process([10, 10, 10, 10, 0], 0), [5, 8, 9, 10, 5])
        self.assertEqual(effect_of(("ahead", 2, 1000), TEMPO).process([500, 0, 2000, 100, 0, 0], 0),
                         [0, 0, 250, 0, 1000, 100])

    def test_objects_share_nothing(self):
        for spec in EFFECTS:
            tempo = list(TEMPO)
            one, other = effect_of(spec, tempo), effect_of(spec, tempo)
            tempo.append((3, 7, 1))
            samples = [5000, -5000, 100] * 9
            kept = list(samples)
            found = one.process(samples, 0)
            expected = list(found)
            found.clear()
            self.assertEqual(samples, kept)
            self.assertEqual(tempo, TEMPO + [(3, 7, 1)])
            self.assertEqual(other.state(), told_state(spec, []))
            self.assertEqual(other.process(samples, 0), expected)
            self.assertEqual(other.state(), one.state())


class TestCheck(unittest.TestCase):
    def refuse(self, spec):
        with self.assertRaises(SoundError) as context:
            check_effect(spec)
        error = context.exception
        self.assertEqual((error.__class__, error.word), (BadEffect, "BadEffect"))
        self.assertIs(error.place, spec)

    def test_each_form(self):
        for spec in EFFECTS:
            self.assertIsNone(check_effect(spec))

    def test_the_ends_of_each_range(self):
        for spec, ranges in FORMS:
            for index, (least, most) in enumerate(ranges, 1):
                for number in (least, least + 1, most - 1, most):
                    self.assertIsNone(check_effect(with_item(spec, index, number)))
                for number in (least - 1, most + 1, -10 ** 30, 10 ** 30):
                    self.refuse(with_item(spec, index, number))

    def test_other_kinds_of_values_in_each_item(self):
        for spec, ranges in FORMS:
            for index in range(1, len(spec)):
                for value in NO_INTEGERS + (deep(),):
                    self.refuse(with_item(spec, index, value))

    def test_an_item_too_many_or_too_few(self):
        for spec in [form for form, _ in FORMS] + [("gain", POINTS)]:
            self.refuse(spec + (1,))
            self.refuse(spec + (None, None))
            for many in range(len(spec)):
                self.refuse(spec[:many])

    def test_unknown_words(self):
        for word in ("", "Pass", "pass ", "passs", "gains", "track", "bus", "output", "steps", None, True, False,
                     0, 1, (), [], ["pass"], ("pass",), deep()):
            self.refuse((word,))
            self.refuse((word, 1))
            self.refuse((word, POINTS))
            self.refuse((word, 5, 100))
            self.refuse((word, 5, 100, 200))

    def test_what_is_no_tuple(self):
        for spec in (None, True, False, 0, 1, "", "pass", "p", [], ["pass"], ["smooth", 1], [("pass",)], deep()):
            self.refuse(spec)
        self.refuse(())
        self.refuse((("pass",),))

    def test_points_of_a_gain(self):
        self.assertIsNone(check_effect(("gain", ((0, 0),))))
        self.assertIsNone(check_effect(("gain", tuple((tick, 262144) for tick in range(32)))))
        for points in ((), None, [], [(0, 0)], "", True, 0, ((0, 0),) * 33):
            self.assertEqual(refused(check_effect, ("gain", points)), refusal(BadPoint), points)
        for index, point in ((0, (-1, 0)), (0, (0, 262145)), (0, [0, 0]), (1, (0, 0)), (1, (1, True)), (1, deep())):
            points = ((0, 0), (5, 5), (9, 9))[:index] + (point, (9, 9))
            self.assertEqual(refused(check_effect, ("gain", points)), refusal(BadPoint, index))

    def test_points_are_not_looked_at_before_the_form(self):
        self.refuse(("gain", (), 1))
        self.refuse(("gain", None, None))
        self.refuse(("gain",))

    def test_a_refused_value_is_not_modified(self):
        spec = ("ahead", [1, [2]], {})
        before = copy.deepcopy(spec)
        self.refuse(spec)
        self.assertEqual(spec, before)


class TestLatency(unittest.TestCase):
    def test_ahead_has_its_frames(self):
        for frames in (1, 2, 31, 32):
            self.assertEqual(latency_of(("ahead", frames, 4000)), frames)

    def test_everything_else_has_none(self):
        for spec in EFFECTS[:7] + (("track", "t"), ("bus",), ("output",), ("word", 5, 5), ("", 3)):
            self.assertEqual(latency_of(spec), 0)


class TestPass(unittest.TestCase):
    def test_what_comes_in_goes_out(self):
        samples = [0, 1, -1, 8388607, -8388608]
        self.assertEqual(effect_of(("pass",), TEMPO).process(samples, -3), samples)


class TestGain(unittest.TestCase):
    def test_the_value_at_the_moment(self):
        gain = effect_of(("gain", ((2, 65536), (4, 0))), TEMPO)
        self.assertEqual(gain.process([100] * 7, 0), [100, 100, 100, 50, 0, 0, 0])
        self.assertEqual(gain.process([100, 100], 2), [100, 50])
        self.assertEqual(gain.process([100], 3), [50])

    def test_moments_below_0_have_the_value_at_0(self):
        gain = effect_of(("gain", ((0, 32768), (2, 131072))), TEMPO)
        self.assertEqual(gain.process([100] * 6, -3), [50, 50, 50, 50, 125, 200])
        self.assertEqual(gain.process([100], -10 ** 30), [50])

    def test_ticks_become_frames_by_the_tempo_map(self):
        gain = effect_of(("gain", ((1, 65536), (3, 0))), [(0, 5, 2), (3, 1, 3)])
        self.assertEqual(gain.process([1000] * 9, 0), [1000, 1000, 1000, 800, 600, 400, 200, 0, 0])

    def test_the_sample_is_cut_and_rounded(self):
        gain = effect_of(("gain", ((0, 262144),)), TEMPO)
        self.assertEqual(gain.process([8388607, -8388608, 3, 2097151, 2097152], 0),
                         [8388607, -8388608, 12, 8388604, 8388607])
        self.assertEqual(effect_of(("gain", ((0, 32768),)), TEMPO).process([3, -3, 1, -1], 0), [2, -1, 1, 0])

    def test_late_moments(self):
        gain = effect_of(("gain", ((0, 0), (1000000, 65536))), [(0, 1000, 1)])
        self.assertEqual(gain.process([65536, 65536], 10 ** 9 - 1), [65535, 65536])
        self.assertEqual(gain.process([7], 10 ** 40), [7])


class TestDelay(unittest.TestCase):
    def test_what_went_in_comes_out_that_many_frames_later(self):
        self.assertEqual(effect_of(("delay", 1, 0, 65536), TEMPO).process([5, 7, 0, 0], 0), [5, 12, 7, 0])
        self.assertEqual(effect_of(("delay", 3, 0, 131072), TEMPO).process([5, 0, 0, 0, 0], 0), [5, 0, 0, 10, 0])
        found = effect_of(("delay", 64, 0, 65536), TEMPO).process([5] + [0] * 66, 0)
        self.assertEqual([at for at, sample in enumerate(found) if sample], [0, 64])

    def test_feedback_goes_round(self):
        self.assertEqual(effect_of(("delay", 1, 65536, 65536), TEMPO).process([5, 0, 0, 0], 0), [5, 5, 5, 5])
        self.assertEqual(effect_of(("delay", 1, 131072, 65536), TEMPO).process([5, 0, 0, 0], 0), [5, 5, 10, 20])
        self.assertEqual(effect_of(("delay", 1, 65536, 0), TEMPO).process([5, 0, 0, 0], 0), [5, 0, 0, 0])

    def test_both_sums_are_cut(self):
        delay = effect_of(("delay", 1, 262144, 262144), TEMPO)
        self.assertEqual(delay.process([8388607, 8388607, -8388608, -8388608], 0), [8388607, 8388607, -1, -8388608])
        # What went into the line was cut, too: -8388608 + cut(4 * -1).
        self.assertEqual(delay.state(), (-8388608,))
        # The delayed sample is cut before it is added.
        self.assertEqual(delay.process([8388607], 0), [-1])


class TestSmooth(unittest.TestCase):
    def test_a_rise_until_it_arrives(self):
        self.assertEqual(effect_of(("smooth", 1), TEMPO).process([10] * 6, 0), [5, 8, 9, 10, 10, 10])
        self.assertEqual(effect_of(("smooth", 2), TEMPO).process([5] * 6, 0), [2, 3, 4, 5, 5, 5])

    def test_a_fall_until_it_arrives(self):
        self.assertEqual(effect_of(("smooth", 1), TEMPO).process([-10] * 6, 0), [-5, -8, -9, -10, -10, -10])
        smooth = effect_of(("smooth", 1), TEMPO)
        smooth.restore((10,))
        self.assertEqual(smooth.process([1] * 6, 0), [5, 3, 2, 1, 1, 1])

    def test_k_of_8(self):
        smooth = effect_of(("smooth", 8), TEMPO)
        self.assertEqual(smooth.process([256, 257, 1, 1], 0), [1, 2, 1, 1])
        self.assertEqual(smooth.process([-255, -512], 0), [0, -2])

    def test_from_bound_to_bound(self):
        for k in range(1, 9):
            smooth = effect_of(("smooth", k), TEMPO)
            smooth.restore((-8388608,))
            up = smooth.process([8388607] * 6000, 0)
            self.assertEqual(up[-1], 8388607)
            self.assertEqual(up, sorted(up))
            down = smooth.process([-8388608] * 6000, 0)
            self.assertEqual(down[-1], -8388608)
            self.assertEqual(down, sorted(down, reverse=True))
            self.assertEqual(smooth.state(), (-8388608,))


class TestAhead(unittest.TestCase):
    def test_what_is_not_too_loud_stays_and_comes_later(self):
        self.assertEqual(effect_of(("ahead", 1, 7), TEMPO).process([7, -7, 3, 0], 0), [0, 7, -7, 3])
        self.assertEqual(effect_of(("ahead", 32, 8388607), TEMPO).process([9] * 40, 0), [0] * 32 + [9] * 8)

    def test_it_is_turned_down_from_frames_ahead_up_to_the_loud_sample(self):
        self.assertEqual(effect_of(("ahead", 3, 100), TEMPO).process([80, 80, 80, 80, 200, 80, 80, 80, 80], 0),
                         [0, 0, 0, 80, 40, 40, 40, 100, 80])
        self.assertEqual(effect_of(("ahead", 1, 100), TEMPO).process([80, -200, 80, 80, 0], 0), [0, 40, -100, 80, 80])

    def test_the_ceilings_1_and_8388607(self):
        # The gain 65536 // 8388608 is 0, 65536 // 2 is a half.
        self.assertEqual(effect_of(("ahead", 1, 1), TEMPO).process([8388607, -8388608, 1, -1, 2, 1, -2, 0], 0),
                         [0, 0, 0, 1, 0, 1, 1, -1])
        ahead = effect_of(("ahead", 1, 8388607), TEMPO)
        self.assertEqual(ahead.process([8388607, -8388608, 8388607, 8388607, 0], 0),
                         [0, 8388479, -8388480, 8388607, 8388607])

    def test_never_beyond_the_ceiling(self):
        rng = random.Random(43)
        for frames in (1, 2, 5, 32):
            for ceiling in (1, 2, 3, 1000, 65537, 8388606, 8388607):
                samples = [rng.choice((-8388608, 8388607, ceiling + 1, -ceiling - 1, rng.randint(-8388608, 8388607)))
                           for _ in range(100)]
                samples = [max(-8388608, min(8388607, sample)) for sample in samples]
                given = effect_of(("ahead", frames, ceiling), TEMPO).process(samples, 0)
                self.assertTrue(all(-ceiling <= sample <= ceiling for sample in given))


class TestBlocks(unittest.TestCase):
    def test_at_rest(self):
        for spec in EFFECTS:
            effect = effect_of(spec, TEMPO)
            self.assertEqual(effect.state(), told_state(spec, []))
            self.assertEqual(effect.process([], 5), [])
            self.assertEqual(effect.process([0] * 70, 0), [0] * 70)
            self.assertEqual(effect.state(), told_state(spec, []))

    def test_each_division_into_blocks_gives_the_told_samples(self):
        rng = random.Random(47)
        for spec in EFFECTS * 12:
            tempo = [(tick, rng.randint(1, 9), rng.randint(1, 9)) for tick in (0, rng.randint(1, 9))]
            samples = loud_samples(rng, 150)
            moment = rng.choice((-40, 0, 3))
            expected = told_effect(spec, tempo, samples, moment)
            self.assertEqual(effect_of(spec, tempo).process(samples, moment), expected)
            effect = effect_of(spec, tempo)
            at = 0
            while at < 150:
                count = min(rng.choice((0, 1, 2, 30, 70)), 150 - at)
                self.assertEqual(effect.process(samples[at:at + count], moment + at), expected[at:at + count])
                at += count
                self.assertEqual(effect.state(), told_state(spec, samples[:at]))
                if rng.randrange(4) == 0:
                    state = effect.state()
                    effect = effect_of(spec, tempo)
                    effect.process(loud_samples(rng, 5), 0)
                    self.assertIsNone(effect.restore(state))


class TestState(unittest.TestCase):
    def test_what_the_states_are(self):
        # The smoothing goes to 1, 2 and 3, and then by the half of 7, rounded up.
        cases = ((("pass",), ()), (("gain", POINTS), ()), (("smooth", 1), (-1,)), (("ahead", 2, 1), (3, -4)),
                 (("ahead", 5, 1), (0, 1, 2, 3, -4)), (("delay", 2, 0, 5), (3, -4)), (("delay", 2, 65536, 5), (4, -2)),
                 (("delay", 5, 0, 5), (0, 1, 2, 3, -4)))
        for spec, state in cases:
            effect = effect_of(spec, TEMPO)
            effect.process([1, 2, 3, -4], 0)
            self.assertEqual(effect.state(), state, spec)

    def test_a_state_in_another_object_in_the_midst(self):
        samples = [8000, -300, 77, 8388607, -8388608, 5, 0, 0, 1, 2] * 9
        for spec in EFFECTS:
            one = effect_of(spec, TEMPO)
            one.process(samples, 0)
            state = one.state()
            copied = copy.deepcopy(state)
            other = effect_of(spec, TEMPO)
            other.process([1, 2, 3], 0)
            self.assertIsNone(other.restore(state))
            self.assertEqual(other.state(), state)
            expected = one.process(samples, 90)
            self.assertEqual(other.process(samples, 90), expected)
            self.assertEqual(state, copied)
            one.restore(state)
            self.assertEqual(one.process(samples, 90), expected)

    def test_states_that_are_none(self):
        for spec in EFFECTS:
            effect = effect_of(spec, TEMPO)
            effect.process([5, 6, 7], 0)
            kept = effect.state()
            bad = [None, True, False, 0, 1, "", "a", "ab", [], list(kept), [kept], (kept,), kept + (0,), (0,) * 65,
                   deep()]
            if kept:
                bad.extend([(), kept[1:], kept[:-1], "a" * len(kept)])
            for value in NO_INTEGERS + (-8388609, 8388608, 10 ** 30, deep()):
                bad.extend(with_item(kept, index, value) for index in {0, len(kept) // 2, len(kept) - 1} if kept)
            for state in bad:
                self.assertEqual(refused(effect.restore, state), refusal(BadState))
                self.assertEqual(effect.state(), kept)
            fresh = effect_of(spec, TEMPO)
            fresh.process([5, 6, 7], 0)
            self.assertEqual(effect.process([1] * 80, 3), fresh.process([1] * 80, 3))

    def test_states_at_both_bounds(self):
        for spec in EFFECTS:
            effect = effect_of(spec, TEMPO)
            many = len(effect.state())
            for sample in (-8388608, 8388607):
                self.assertIsNone(effect.restore((sample,) * many))
                self.assertEqual(effect.state(), (sample,) * many)


if __name__ == "__main__":
    unittest.main()
