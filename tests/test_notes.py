"""Points 1.6, 1.7 and 1.8, and the interface of everyblock.notes."""

import copy
import random
import unittest

from checks import NO_INTEGERS, deep, refusal, refused, stand_in, with_item
from told import told_events

from everyblock import notes as notes_module
from everyblock.errors import BadClip, BadNote
from everyblock.notes import check_clip, check_note, event_of, events_of, notes_of
from everyblock.tempo import frame_of

NOTE = (5, 6, 60, 100)
CLIP = (7, 8, 9, (NOTE, NOTE))
NOTE_ENDS = ((0, 100000), (1, 100000), (0, 127), (1, 127))
CLIP_ENDS = ((0, 100000), (1, 100000), (1, 100))
NO_NOTES = ((), (5,), (5, 6, 60), (5, 6, 60, 100, 1), [5, 6, 60, 100], None, True, False, 0, 1, "", "abcd",
            (NOTE,), (NOTE, NOTE, NOTE, NOTE), [NOTE])


class TestInterface(unittest.TestCase):
    def test_functions_stand_in_this_file(self):
        self.assertIs(stand_in(notes_module, {
            "check_note": "(note, at=None)", "check_clip": "(clip)", "notes_of": "(clips)",
            "event_of": "(tempo, note)", "events_of": "(tempo, clips)",
        }), True)

    def test_example(self):
        self.assertEqual(events_of([(0, 1, 2)], [(0, 4, 2, ((1, 2, 60, 100), (0, 1, 62, 90)))]),
                         [(0, 1, 60, 100), (0, 0, 62, 90), (2, 3, 60, 100), (2, 2, 62, 90)])

    def test_arguments_are_not_modified_and_lists_are_new(self):
        tempo = [(0, 5, 2), (3, 1, 3)]
        clips = [(4, 2, 2, (NOTE, (0, 1, 62, 90))), (0, 4, 1, (NOTE,))]
        before = copy.deepcopy((tempo, clips))
        for function in (lambda: notes_of(clips), lambda: events_of(tempo, clips)):
            first = function()
            self.assertIsInstance(first, list)
            expected = list(first)
            first.clear()
            self.assertEqual(function(), expected)
        self.assertEqual((tempo, clips), before)


class TestCheckNote(unittest.TestCase):
    def test_the_ends_of_each_range(self):
        for index, ends in enumerate(NOTE_ENDS):
            for number in (ends[0], ends[0] + 1, ends[1] - 1, ends[1]):
                self.assertIsNone(check_note(with_item(NOTE, index, number)))
            for number in (ends[0] - 1, ends[1] + 1, -10 ** 30, 10 ** 30):
                self.assertEqual(refused(check_note, with_item(NOTE, index, number)), refusal(BadNote))

    def test_all_ends_at_once(self):
        self.assertIsNone(check_note((0, 1, 0, 1)))
        self.assertIsNone(check_note((100000, 100000, 127, 127)))

    def test_other_kinds_of_values_in_each_item(self):
        for index in range(4):
            for value in NO_INTEGERS + (deep(),):
                self.assertEqual(refused(check_note, with_item(NOTE, index, value)), refusal(BadNote))

    def test_what_is_no_tuple_of_four(self):
        for note in NO_NOTES:
            self.assertEqual(refused(check_note, note), refusal(BadNote), note)
        self.assertEqual(refused(check_note, deep()), refusal(BadNote))

    def test_the_place_is_what_was_passed(self):
        for place in (0, 1, 63, 10 ** 20, "here", None):
            self.assertEqual(refused(check_note, None, place), refusal(BadNote, place))
            self.assertEqual(refused(lambda: check_note((0, 0, 0, 0), at=place)), refusal(BadNote, place))
            self.assertIsNone(check_note(NOTE, place))


class TestCheckClip(unittest.TestCase):
    def test_the_ends_of_each_range(self):
        for index, ends in enumerate(CLIP_ENDS):
            for number in (ends[0], ends[0] + 1, ends[1] - 1, ends[1]):
                self.assertIsNone(check_clip(with_item(CLIP, index, number)))
            for number in (ends[0] - 1, ends[1] + 1, -10 ** 30, 10 ** 30):
                self.assertEqual(refused(check_clip, with_item(CLIP, index, number)), refusal(BadClip, index))

    def test_other_kinds_of_values_in_each_item(self):
        for index in range(3):
            for value in NO_INTEGERS + (deep(),):
                self.assertEqual(refused(check_clip, with_item(CLIP, index, value)), refusal(BadClip, index))

    def test_what_is_no_tuple_of_four(self):
        for clip in ((), (7,), (7, 8, 9), CLIP + (1,), list(CLIP), None, True, False, 0, 1, "", "abcd", (CLIP,), [CLIP],
                     deep()):
            self.assertEqual(refused(check_clip, clip), refusal(BadClip))

    def test_at_most_64_notes(self):
        for many in (0, 1, 2, 63, 64):
            self.assertIsNone(check_clip((7, 8, 9, (NOTE,) * many)))
        for many in (65, 66, 1000):
            self.assertEqual(refused(check_clip, (7, 8, 9, (NOTE,) * many)), refusal(BadClip, 3))

    def test_notes_that_are_no_tuple(self):
        for notes in ([], [NOTE], None, True, False, 0, 1, "", "abcd"):
            self.assertEqual(refused(check_clip, (7, 8, 9, notes)), refusal(BadClip, 3), notes)

    def test_what_is_no_note(self):
        for note in NO_NOTES + (deep(),):
            for index in (0, 1, 63):
                notes = with_item((NOTE,) * 64, index, note)
                self.assertEqual(refused(check_clip, (7, 8, 9, notes)), refusal(BadNote, index))
        for index, ends in enumerate(NOTE_ENDS):
            for value in (ends[0] - 1, ends[1] + 1, True, None):
                notes = (NOTE, with_item(NOTE, index, value))
                self.assertEqual(refused(check_clip, (7, 8, 9, notes)), refusal(BadNote, 1))

    def test_a_tuple_of_numbers_holds_no_notes(self):
        self.assertEqual(refused(check_clip, (7, 8, 9, NOTE)), refusal(BadNote, 0))

    def test_the_first_error_in_the_order_of_the_point(self):
        bad = (None,) * 4
        self.assertEqual(refused(check_clip, bad + (1,)), refusal(BadClip))
        self.assertEqual(refused(check_clip, bad), refusal(BadClip, 0))
        self.assertEqual(refused(check_clip, (7,) + bad[1:]), refusal(BadClip, 1))
        self.assertEqual(refused(check_clip, (7, 8) + bad[2:]), refusal(BadClip, 2))
        self.assertEqual(refused(check_clip, (7, 8, 9) + bad[3:]), refusal(BadClip, 3))
        self.assertEqual(refused(check_clip, (7, 8, 0, (None,))), refusal(BadClip, 2))
        self.assertEqual(refused(check_clip, (7, 8, 9, (None,) * 65)), refusal(BadClip, 3))
        self.assertEqual(refused(check_clip, (7, 8, 9, (NOTE, None, 1, NOTE))), refusal(BadNote, 1))


class TestNotes(unittest.TestCase):
    def test_turns_begin_a_period_apart(self):
        self.assertEqual(notes_of([(10, 4, 3, ((1, 2, 60, 100),))]),
                         [(11, 2, 60, 100), (15, 2, 60, 100), (19, 2, 60, 100)])

    def test_the_order_is_clips_then_turns_then_notes(self):
        clips = [(10, 4, 2, ((3, 1, 1, 1), (0, 1, 2, 2))), (0, 1, 1, ((0, 5, 3, 3),))]
        expected = [(13, 1, 1, 1), (10, 1, 2, 2), (17, 1, 1, 1), (14, 1, 2, 2), (0, 5, 3, 3)]
        self.assertEqual(notes_of(clips), expected)
        self.assertEqual(notes_of(tuple(clips)), expected)

    def test_empty_clips_have_no_notes(self):
        for clips in ([], (), [(7, 8, 100, ())], [(7, 8, 100, ()), (0, 1, 1, ())]):
            self.assertEqual(notes_of(clips), [])
        self.assertEqual(notes_of([(0, 1, 3, ()), (0, 1, 1, (NOTE,)), (0, 1, 3, ())]), [NOTE])

    def test_starts_behind_the_range_of_a_written_note(self):
        clips = [(100000, 100000, 100, ((100000, 100000, 127, 127),))]
        self.assertEqual(notes_of(clips)[-1], (10100000, 100000, 127, 127))
        self.assertEqual(len(notes_of(clips)), 100)


class TestEvents(unittest.TestCase):
    def test_start_and_end_are_exact_frames(self):
        tempo = [(0, 1, 3)]
        self.assertEqual(event_of(tempo, (2, 1, 60, 100)), (0, 1, 60, 100))
        self.assertEqual(event_of(tempo, (2, 3, 60, 100)), (0, 1, 60, 100))
        self.assertEqual(event_of(tempo, (2, 4, 60, 100)), (0, 2, 60, 100))
        self.assertEqual(event_of([(0, 3, 2)], (1, 1, 0, 1)), (1, 3, 0, 1))

    def test_start_and_end_may_be_the_same_frame(self):
        self.assertEqual(event_of([(0, 1, 100)], (0, 99, 5, 6)), (0, 0, 5, 6))
        self.assertEqual(event_of([(0, 1, 100)], (0, 100, 5, 6)), (0, 1, 5, 6))
        self.assertEqual(events_of([(0, 1, 100)], [(0, 1, 3, ((0, 1, 5, 6),))]), [(0, 0, 5, 6)] * 3)

    def test_starts_without_an_upper_bound(self):
        huge = 10 ** 40
        self.assertEqual(event_of([(0, 7, 10)], (huge, 10, 1, 2)), (7 * huge // 10, 7 * huge // 10 + 7, 1, 2))

    def test_a_note_over_a_change_of_tempo(self):
        self.assertEqual(event_of([(0, 2, 1), (5, 10, 1)], (4, 3, 60, 1)), (8, 30, 60, 1))

    def test_turns_are_rounded_from_their_own_tick(self):
        # The frames of the parts would be 0 + 0 + 0, but the tick 2 is the frame 1.
        self.assertEqual(events_of([(0, 1, 2)], [(1, 1, 2, ((0, 1, 60, 1),))]), [(0, 1, 60, 1), (1, 1, 60, 1)])
        self.assertEqual(events_of([(0, 1, 3)], [(1, 1, 3, ((0, 1, 60, 1),))]),
                         [(0, 0, 60, 1), (0, 1, 60, 1), (1, 1, 60, 1)])

    def test_events_ascend_by_start(self):
        clips = [(10, 4, 2, ((3, 1, 1, 1), (0, 1, 2, 2))), (0, 1, 1, ((12, 5, 3, 3),))]
        self.assertEqual(events_of([(0, 1, 1)], clips),
                         [(10, 11, 2, 2), (12, 17, 3, 3), (13, 14, 1, 1), (14, 15, 2, 2), (17, 18, 1, 1)])

    def test_equal_starts_stay_in_the_order_of_clips_turns_and_notes(self):
        # All begin at the frame 0; ends, pitches and strengths descend, so that sorting by them would show.
        clips = [(3, 1, 2, ((2, 90, 90, 90), (0, 80, 80, 80))), (0, 1, 2, ((1, 70, 70, 70), (0, 60, 60, 60)))]
        pitches = [event[2] for event in events_of([(0, 1, 100)], clips)]
        self.assertEqual(pitches, [90, 80, 90, 80, 70, 60, 70, 60])

    def test_equal_frames_of_different_ticks_stay_in_order(self):
        # The later tick stands first in the clip, and both begin at the frame 0.
        self.assertEqual(events_of([(0, 1, 2)], [(0, 1, 1, ((1, 1, 9, 9), (0, 1, 8, 8)))]),
                         [(0, 1, 9, 9), (0, 0, 8, 8)])

    def test_a_turn_overtakes_a_late_note_of_the_turn_before(self):
        self.assertEqual(events_of([(0, 1, 1)], [(0, 2, 3, ((3, 1, 1, 1), (0, 1, 2, 2)))]),
                         [(0, 1, 2, 2), (2, 3, 2, 2), (3, 4, 1, 1), (4, 5, 2, 2), (5, 6, 1, 1), (7, 8, 1, 1)])

    def test_notes_last_longer_than_the_period(self):
        self.assertEqual(events_of([(0, 1, 1)], [(0, 2, 3, ((0, 100, 60, 5),))]),
                         [(0, 100, 60, 5), (2, 102, 60, 5), (4, 104, 60, 5)])

    def test_no_events(self):
        for clips in ([], (), [(0, 1, 100, ())], ((5, 5, 5, ()), (6, 6, 6, ()))):
            self.assertEqual(events_of([(0, 1, 1)], clips), [])

    def test_random_clips(self):
        rng = random.Random(17)
        for _ in range(150):
            ticks = (0, *sorted(rng.sample(range(1, 40), 3)))
            tempo = [(tick, rng.randint(1, 9), rng.randint(1, 12)) for tick in ticks]
            clips = [(rng.randint(0, 20), rng.randint(1, 6), rng.randint(1, 5), tuple(
                (rng.randint(0, 9), rng.randint(1, 12), rng.randint(0, 127), rng.randint(1, 127))
                for _ in range(rng.randint(0, 4)))) for _ in range(rng.randint(0, 4))]
            expected = told_events(tempo, clips)
            self.assertEqual(events_of(tempo, clips), expected)
            self.assertEqual(events_of(tempo, tuple(clips)), expected)
            for note in notes_of(clips):
                self.assertEqual(event_of(tempo, note), (frame_of(tempo, note[0]), frame_of(tempo, note[0] + note[1]),
                                                         note[2], note[3]))


if __name__ == "__main__":
    unittest.main()
