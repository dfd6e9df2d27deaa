"""Points 2.9, 2.10 and 2.11, and the interface of everyblock.source."""

import copy
import random
import unittest

from checks import refusal, refused, stand_in
from told import told_track

from everyblock import source
from everyblock.errors import UnknownTrack
from everyblock.source import sample_at, source_sample, source_samples, track_samples

FLAT = ("steps", 0, 0, (1000,))
LOUD = ("steps", 0, 0, (8388607,))
DEEP = ("steps", 0, 0, (-8388608,))


class Tracks:
    """What the interface of Project says of tracks and events, and no more."""

    def __init__(self, tracks, events):
        self._tracks = {track[0]: track for track in tracks}
        self._events = events

    def track(self, name):
        if name not in self._tracks:
            raise UnknownTrack(name)
        return self._tracks[name]

    def events(self, name):
        self.track(name)
        return list(self._events[name])


def random_track(rng, late):
    """Events, an instrument and a number of voices."""
    starts = sorted(rng.choices(range(rng.choice((4, 12, 30))), k=rng.randint(0, 12)))
    events = [(late + start, late + start + rng.choice((0, 0, 1, 3, 9, 25)), rng.randint(0, 127), rng.randint(1, 127))
              for start in starts]
    word = rng.choice(("saw", "square", "steps"))
    row = tuple(rng.randint(-8388608, 8388607) for _ in range(rng.randint(1, 64)))
    ramps = (rng.choice((0, 1, 3, 1000)), rng.choice((0, 1, 5)))
    return events, (word,) + ramps + ((row,) if word == "steps" else ()), rng.choice((1, 2, 4, 16))


class TestInterface(unittest.TestCase):
    def test_functions_stand_in_this_file(self):
        self.assertIs(stand_in(source, {
            "source_samples": "(events, instrument, voices, first, count)",
            "source_sample": "(events, instrument, voices, frame)",
            "track_samples": "(project, name, first, count)", "sample_at": "(project, name, frame)",
        }), True)

    def test_arguments_are_not_modified_and_lists_are_new(self):
        events = [(1, 4, 60, 127), (2, 3, 61, 100)]
        before = copy.deepcopy(events)
        found = source_samples(events, FLAT, 2, 0, 5)
        self.assertEqual(found, [0, 1000, 1787, 1000, 0])
        found.clear()
        self.assertEqual(source_samples(events, FLAT, 2, 0, 5), [0, 1000, 1787, 1000, 0])
        self.assertEqual(events, before)


class TestSum(unittest.TestCase):
    def test_voices_are_added(self):
        events = [(0, 3, 60, 127), (1, 4, 60, 127), (2, 6, 60, 127)]
        self.assertEqual(source_samples(events, FLAT, 3, 0, 7), [1000, 2000, 3000, 2000, 1000, 1000, 0])

    def test_no_events(self):
        self.assertEqual(source_samples([], FLAT, 1, 0, 3), [0, 0, 0])
        self.assertEqual(source_sample([], FLAT, 16, 10 ** 30), 0)

    def test_the_sum_is_cut_in_both_directions(self):
        events = [(0, 2, 60, 127), (1, 3, 60, 127)]
        self.assertEqual(source_samples(events, LOUD, 2, 0, 4), [8388607, 8388607, 8388607, 0])
        self.assertEqual(source_samples(events, DEEP, 2, 0, 4), [-8388608, -8388608, -8388608, 0])

    def test_the_sum_is_cut_once_behind_the_adding(self):
        # At this frame two voices are in the second half of the wave, and a third one begins with the first half.
        late = 32768 // 11 + 1
        events = [(0, 10 ** 6, 0, 127)] * 2 + [(late, 10 ** 6, 0, 127)]
        rising = ("steps", 0, 0, (-8388608, 8388607))
        self.assertEqual(source_sample(events, rising, 3, late - 1), -8388608)
        self.assertEqual(source_sample(events, rising, 3, late), 2 * 8388607 - 8388608)
        falling = ("steps", 0, 0, (8388607, -8388608))
        self.assertEqual(source_sample(events, falling, 3, late - 1), 8388607)
        self.assertEqual(source_sample(events, falling, 3, late), -8388608)
        quiet = [(0, 10 ** 6, 0, 127)] * 2 + [(late, 10 ** 6, 0, 127), (late, 10 ** 6, 0, 64)]
        self.assertEqual(source_sample(quiet, falling, 4, late), -2 * 8388608 + 8388607 + 8388607 * 64 // 127)

    def test_16_voices(self):
        events = [(0, 5, 60, 127)] * 16
        self.assertEqual(source_samples(events, FLAT, 16, 0, 6), [16000] * 5 + [0])
        self.assertEqual(source_samples(events + [(2, 4, 60, 127)], FLAT, 16, 0, 6), [16000] * 4 + [15000, 0])

    def test_one_voice(self):
        events = [(0, 9, 60, 127), (2, 3, 60, 64), (5, 7, 60, 1)]
        self.assertEqual(source_samples(events, FLAT, 1, 0, 9), [1000, 1000, 503, 0, 0, 7, 7, 0, 0])


class TestSpans(unittest.TestCase):
    def test_a_voice_whose_place_was_taken_is_silent_and_does_not_come_back(self):
        events = [(0, 9, 60, 127), (2, 3, 60, 127)]
        self.assertEqual(source_samples(events, FLAT, 1, 0, 10), [1000, 1000, 1000, 0, 0, 0, 0, 0, 0, 0])

    def test_the_release_ends_with_the_span(self):
        released = ("steps", 0, 3, (1000,))
        events = [(0, 2, 60, 127), (3, 4, 60, 127)]
        self.assertEqual(source_samples(events, released, 2, 0, 8), [1000, 1000, 750, 1500, 1000, 500, 250, 0])
        self.assertEqual(source_samples(events, released, 1, 0, 8), [1000, 1000, 750, 1000, 750, 500, 250, 0])

    def test_an_event_without_frames_takes_a_place(self):
        events = [(0, 9, 60, 127), (2, 2, 60, 127)]
        self.assertEqual(source_samples(events, FLAT, 1, 0, 4), [1000, 1000, 0, 0])
        self.assertEqual(source_samples(events, FLAT, 2, 0, 4), [1000] * 4)

    def test_equal_starts(self):
        events = [(1, 3, 60, 127), (1, 5, 60, 64), (1, 2, 60, 1)]
        self.assertEqual(source_samples(events, FLAT, 1, 0, 4), [0, 7, 0, 0])
        self.assertEqual(source_samples(events, FLAT, 2, 0, 6), [0, 510, 503, 503, 503, 0])


class TestBlocks(unittest.TestCase):
    def test_blocks_of_0_frames(self):
        for first in (0, 1, 2, 10 ** 30):
            self.assertEqual(source_samples([(0, 5, 60, 127)], FLAT, 1, first, 0), [])

    def test_blocks_of_1_frame(self):
        events = [(1, 3, 60, 127)]
        self.assertEqual([source_samples(events, FLAT, 1, frame, 1) for frame in range(4)], [[0], [1000], [1000], [0]])

    def test_a_block_may_begin_and_end_within_a_voice(self):
        events = [(5, 10, 60, 127)]
        self.assertEqual(source_samples(events, FLAT, 1, 6, 2), [1000, 1000])
        self.assertEqual(source_samples(events, FLAT, 1, 9, 3), [1000, 0, 0])
        self.assertEqual(source_samples(events, FLAT, 1, 10, 2), [0, 0])
        self.assertEqual(source_samples(events, FLAT, 1, 3, 3), [0, 0, 1000])

    def test_a_late_frame_is_as_quick_as_an_early_one(self):
        late = 7 * 10 ** 6
        events = [(0, 3, 60, 127), (late, late + 3, 60, 127), (late + 1, 10 ** 30, 60, 1)]
        self.assertEqual(source_samples(events, FLAT, 2, late - 1, 5), [0, 1000, 1007, 1007, 7])
        self.assertEqual(source_samples(events, FLAT, 2, 10 ** 30 - 1, 2), [7, 0])

    def test_each_division_into_blocks_gives_the_told_samples(self):
        rng = random.Random(37)
        for late in (0, 5, 3000000) * 50:
            events, instrument, voices = random_track(rng, late)
            first = max(0, late - 3)
            expected = [told_track(events, instrument, voices, frame) for frame in range(first, first + 50)]
            self.assertEqual(source_samples(events, instrument, voices, first, 50), expected)
            self.assertEqual([source_sample(events, instrument, voices, first + at) for at in range(50)], expected)
            at = 0
            while at < 50:
                count = min(rng.choice((0, 1, 2, 7, 30)), 50 - at)
                self.assertEqual(source_samples(events, instrument, voices, first + at, count), expected[at:at + count])
                at += count


class TestTracks(unittest.TestCase):
    def setUp(self):
        released = ("steps", 0, 1, (3000,))
        tracks = [("a", FLAT, 1, ()), ("b", released, 2, ()), ("c", FLAT, 16, ())]
        events = [(0, 2, 60, 127), (1, 3, 60, 127)]
        self.project = Tracks(tracks, {"a": events, "b": events, "c": []})

    def test_the_samples_of_the_track_with_this_name(self):
        self.assertEqual(track_samples(self.project, "a", 0, 5), [1000, 1000, 1000, 0, 0])
        self.assertEqual(track_samples(self.project, "b", 0, 5), [3000, 6000, 4500, 1500, 0])
        self.assertEqual(track_samples(self.project, "b", 1, 2), [6000, 4500])
        self.assertEqual(track_samples(self.project, "c", 0, 2), [0, 0])
        self.assertEqual(track_samples(self.project, "b", 1, 0), [])

    def test_the_sample_at_one_frame(self):
        self.assertEqual([sample_at(self.project, "b", frame) for frame in range(6)], [3000, 6000, 4500, 1500, 0, 0])
        self.assertEqual(sample_at(self.project, "a", 10 ** 30), 0)

    def test_a_name_that_does_not_exist(self):
        self.assertEqual(refused(track_samples, self.project, "d", 0, 5), refusal(UnknownTrack, "d"))
        self.assertEqual(refused(sample_at, self.project, "d", 0), refusal(UnknownTrack, "d"))


if __name__ == "__main__":
    unittest.main()
