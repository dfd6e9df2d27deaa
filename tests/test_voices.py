"""Points 2.8 and 2.9, and the interface of everyblock.voices."""

import copy
import random
import unittest

from checks import NO_INTEGERS, deep, refusal, refused, stand_in
from told import told_spans

from everyblock import voices
from everyblock.errors import BadVoices
from everyblock.voices import check_voices, sounding_at, spans_of


def with_pitches(ends):
    return [(start, end, 60 + index, 1 + index) for index, (start, end) in enumerate(ends)]


class TestInterface(unittest.TestCase):
    def test_functions_stand_in_this_file(self):
        self.assertIs(stand_in(voices, {
            "check_voices": "(most)", "spans_of": "(events, most, release)", "sounding_at": "(spans, frame)",
        }), True)

    def test_example(self):
        self.assertEqual(spans_of([(0, 10, 60, 1), (2, 4, 62, 1), (3, 9, 64, 1)], 2, 1), [(0, 3), (2, 5), (3, 10)])

    def test_arguments_are_not_modified_and_lists_are_new(self):
        events = with_pitches([(0, 10), (2, 4), (3, 9)])
        spans = [(0, 3), (2, 5), (3, 10)]
        before = copy.deepcopy((events, spans))
        found = spans_of(events, 2, 1)
        self.assertEqual(found, spans)
        found.clear()
        self.assertEqual(spans_of(events, 2, 1), spans)
        sounding = sounding_at(spans, 3)
        sounding.clear()
        self.assertEqual(sounding_at(spans, 3), [1, 2])
        self.assertEqual((events, spans), before)


class TestCheck(unittest.TestCase):
    def test_1_to_16_voices(self):
        for most in range(1, 17):
            self.assertIsNone(check_voices(most))
        for most in (-1, 0, 17, 18, -10 ** 30, 10 ** 30):
            self.assertEqual(refused(check_voices, most), refusal(BadVoices))

    def test_other_kinds_of_values(self):
        for most in NO_INTEGERS + (deep(),):
            self.assertEqual(refused(check_voices, most), refusal(BadVoices))


class TestSpans(unittest.TestCase):
    def test_no_events(self):
        self.assertEqual(spans_of([], 1, 0), [])
        self.assertEqual(spans_of([], 16, 1000), [])

    def test_a_span_ends_with_the_release(self):
        for release in (0, 1, 1000):
            self.assertEqual(spans_of([(5, 9, 60, 1)], 1, release), [(5, 9 + release)])

    def test_one_voice_gives_way_to_the_next(self):
        self.assertEqual(spans_of(with_pitches([(0, 10), (4, 6), (5, 20)]), 1, 0), [(0, 4), (4, 5), (5, 20)])

    def test_a_voice_that_just_ended_does_not_give_way(self):
        events = with_pitches([(0, 4), (4, 8)])
        self.assertEqual(spans_of(events, 1, 0), [(0, 4), (4, 8)])
        self.assertEqual(spans_of(events, 1, 1), [(0, 4), (4, 9)])
        # With a release of 1 it sounds at the frame 4 still: one voice is shortened, two are not.
        self.assertEqual(spans_of(events, 2, 1), [(0, 5), (4, 9)])

    def test_the_voice_that_began_earliest_gives_way(self):
        # The first voice has ended at 5, so at 6 the second one is the eldest.
        self.assertEqual(spans_of(with_pitches([(0, 5), (1, 50), (2, 60), (6, 70)]), 2, 0),
                         [(0, 2), (1, 6), (2, 60), (6, 70)])
        self.assertEqual(spans_of(with_pitches([(0, 5), (1, 50), (6, 70), (7, 80)]), 2, 0),
                         [(0, 5), (1, 7), (6, 70), (7, 80)])

    def test_of_equal_starts_the_first_of_the_row_gives_way(self):
        events = with_pitches([(3, 9), (3, 20), (3, 5), (4, 6)])
        self.assertEqual(spans_of(events, 3, 0), [(3, 4), (3, 20), (3, 5), (4, 6)])

    def test_events_with_equal_starts_leave_empty_spans(self):
        events = with_pitches([(3, 9), (3, 20), (3, 5)])
        self.assertEqual(spans_of(events, 1, 0), [(3, 3), (3, 3), (3, 5)])
        self.assertEqual(spans_of(events, 2, 0), [(3, 3), (3, 20), (3, 5)])

    def test_an_event_without_frames_takes_a_place(self):
        events = with_pitches([(0, 10), (4, 4), (5, 9)])
        self.assertEqual(spans_of(events, 1, 0), [(0, 4), (4, 4), (5, 9)])
        # It does not sound itself, so it is not counted, not even at its own start.
        self.assertEqual(spans_of(with_pitches([(0, 10), (4, 4), (4, 9)]), 2, 0), [(0, 10), (4, 4), (4, 9)])
        self.assertEqual(spans_of(with_pitches([(0, 10), (1, 10), (4, 4), (4, 9)]), 2, 0),
                         [(0, 4), (1, 10), (4, 4), (4, 9)])

    def test_a_span_does_not_come_back(self):
        # What took the place of the first one is over at 3, but the first one stays silent and is not counted.
        events = with_pitches([(0, 100), (2, 3), (10, 20), (12, 30)])
        self.assertEqual(spans_of(events, 1, 0), [(0, 2), (2, 3), (10, 12), (12, 30)])
        self.assertEqual(spans_of(with_pitches([(0, 100), (1, 50), (2, 3), (10, 20)]), 2, 0),
                         [(0, 2), (1, 50), (2, 3), (10, 20)])

    def test_16_voices(self):
        events = with_pitches([(at, 1000) for at in range(20)])
        expected = [(at, at + 16 if at < 4 else 1000) for at in range(20)]
        self.assertEqual(spans_of(events, 16, 0), expected)

    def test_late_and_long_events(self):
        late = 10 ** 40
        self.assertEqual(spans_of([(0, late, 60, 1), (late - 1, 2 * late, 60, 1)], 1, 7),
                         [(0, late - 1), (late - 1, 2 * late + 7)])

    def test_random_events(self):
        rng = random.Random(31)
        for _ in range(600):
            starts = sorted(rng.choices(range(rng.choice((3, 12, 25))), k=rng.randint(0, 14)))
            events = with_pitches([(start, start + rng.choice((0, 0, 1, 2, 9))) for start in starts])
            most, release = rng.choice((1, 2, 3, 5, 16)), rng.choice((0, 1, 4))
            expected = told_spans(events, most, release)
            self.assertEqual(spans_of(events, most, release), expected, (events, most, release))


class TestSounding(unittest.TestCase):
    def test_a_span_contains_its_start_and_not_the_frame_behind_it(self):
        spans = [(2, 5)]
        self.assertEqual([sounding_at(spans, frame) for frame in range(7)], [[], [], [0], [0], [0], [], []])

    def test_indexes_ascend(self):
        spans = [(0, 9), (0, 3), (2, 5), (3, 4), (7, 7)]
        self.assertEqual(sounding_at(spans, 0), [0, 1])
        self.assertEqual(sounding_at(spans, 2), [0, 1, 2])
        self.assertEqual(sounding_at(spans, 3), [0, 2, 3])
        self.assertEqual(sounding_at(spans, 7), [0])
        self.assertEqual(sounding_at(spans, 9), [])

    def test_empty_spans_never_sound(self):
        for frame in range(6):
            self.assertEqual(sounding_at([(3, 3), (0, 0)], frame), [])

    def test_no_spans_and_late_frames(self):
        self.assertEqual(sounding_at([], 0), [])
        self.assertEqual(sounding_at([(0, 10 ** 40), (10 ** 40, 10 ** 41)], 10 ** 40), [1])


if __name__ == "__main__":
    unittest.main()
