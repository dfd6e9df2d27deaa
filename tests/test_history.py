"""Point 6.6, and the interface of everyblock.history."""

import inspect
import random
import unittest

from checks import refusal, refused
from projects import NODES, OUT, TEMPO, TRACK, example, parts_of, random_edit, random_project

from everyblock.edits import done
from everyblock.errors import BadEdit, BadVoices, NothingToRedo, NothingToUndo, UnknownTrack
from everyblock.history import History
from everyblock.project import Project, same_project

VOICES = [("voices", "t", many) for many in range(1, 17)]
WRONG = (
    (("voices", "x", 1), refusal(UnknownTrack, "x")), (("voices", "t", 0), refusal(BadVoices)), ((), refusal(BadEdit)),
    (("all", (VOICES[0], ("notes", "t", 1, 0, 0, ()))), refusal(BadEdit)),
    (("all", (VOICES[0], VOICES[1], ("voices", "t", True))), refusal(BadVoices)),
)


def voices_of(history):
    return history.present.track("t")[2]


class TestInterface(unittest.TestCase):
    def test_the_class_stands_in_this_file_with_its_methods(self):
        self.assertEqual(History.__module__, "everyblock.history")
        self.assertEqual(str(inspect.signature(History)), "(project)")
        for name, parameters in (("counts", "(self)"), ("edit", "(self, edit)"), ("undo", "(self)"),
                                 ("redo", "(self)")):
            self.assertEqual(str(inspect.signature(vars(History)[name])), parameters)
        self.assertIsInstance(vars(History)["present"], property)

    def test_methods_return_none(self):
        history = History(example())
        self.assertEqual((history.edit(VOICES[0]), history.undo(), history.redo()), (None, None, None))

    def test_the_project_is_not_modified(self):
        project = example()
        before = parts_of(project)
        history = History(project)
        history.edit(("all", (VOICES[0], ("lines", 0, 3, ()), ("tempo", ((0, 2, 1),)))))
        history.undo()
        history.redo()
        self.assertEqual(parts_of(project), before)


class TestHistory(unittest.TestCase):
    def setUp(self):
        self.history = History(example())

    def test_without_edits(self):
        self.assertTrue(same_project(self.history.present, example()))
        self.assertEqual(self.history.counts(), (0, 0))
        self.assertIs(self.history.counts().__class__, tuple)

    def test_an_edit(self):
        self.history.edit(VOICES[1])
        self.assertEqual((voices_of(self.history), self.history.counts()), (2, (1, 0)))
        self.history.edit(("notes", "t", 0, 0, 1, ()))
        self.assertEqual(self.history.present.events("t"), [])
        self.assertEqual((voices_of(self.history), self.history.counts()), (2, (2, 0)))

    def test_undo_and_redo_to_the_end_and_beyond_it(self):
        for edit in VOICES[:3]:
            self.history.edit(edit)
        for _ in range(2):
            for voices, counts in ((2, (2, 1)), (1, (1, 2)), (4, (0, 3))):
                self.history.undo()
                self.assertEqual((voices_of(self.history), self.history.counts()), (voices, counts))
            for _ in range(2):
                self.assertEqual(refused(self.history.undo), refusal(NothingToUndo))
                self.assertEqual((voices_of(self.history), self.history.counts()), (4, (0, 3)))
            for voices, counts in ((1, (1, 2)), (2, (2, 1)), (3, (3, 0))):
                self.history.redo()
                self.assertEqual((voices_of(self.history), self.history.counts()), (voices, counts))
            for _ in range(2):
                self.assertEqual(refused(self.history.redo), refusal(NothingToRedo))
                self.assertEqual((voices_of(self.history), self.history.counts()), (3, (3, 0)))

    def test_nothing_to_undo_or_redo_at_first(self):
        self.assertEqual(refused(self.history.undo), refusal(NothingToUndo))
        self.assertEqual(refused(self.history.redo), refusal(NothingToRedo))
        self.assertEqual(self.history.counts(), (0, 0))

    def test_an_edit_behind_an_undo(self):
        for edit in VOICES[:3]:
            self.history.edit(edit)
        self.history.undo()
        self.history.undo()
        self.history.edit(VOICES[8])
        self.assertEqual((voices_of(self.history), self.history.counts()), (9, (2, 0)))
        self.assertEqual(refused(self.history.redo), refusal(NothingToRedo))
        self.history.undo()
        self.assertEqual((voices_of(self.history), self.history.counts()), (1, (1, 1)))
        self.history.undo()
        self.assertEqual((voices_of(self.history), self.history.counts()), (4, (0, 2)))
        self.history.redo()
        self.history.redo()
        self.assertEqual((voices_of(self.history), self.history.counts()), (9, (2, 0)))

    def test_an_edit_that_changes_nothing_is_an_edit(self):
        self.history.edit(("all", ()))
        self.history.edit(("voices", "t", 4))
        self.assertEqual(self.history.counts(), (2, 0))
        self.history.undo()
        self.history.edit(("notes", "t", 0, 0, 0, ()))
        self.assertEqual(self.history.counts(), (2, 0))
        self.assertTrue(same_project(self.history.present, example()))

    def test_an_all_is_one_edit(self):
        self.history.edit(("all", (VOICES[0], VOICES[1], ("all", (VOICES[2], VOICES[4])))))
        self.assertEqual((voices_of(self.history), self.history.counts()), (5, (1, 0)))
        self.history.undo()
        self.assertEqual((voices_of(self.history), self.history.counts()), (4, (0, 1)))

    def test_what_raises_an_error_changes_nothing(self):
        self.history.edit(VOICES[0])
        self.history.edit(VOICES[1])
        self.history.undo()
        before = parts_of(self.history.present)
        for edit, error in WRONG:
            self.assertEqual(refused(self.history.edit, edit), error)
            self.assertEqual((parts_of(self.history.present), self.history.counts()), (before, (1, 1)))
        self.history.redo()
        self.assertEqual(voices_of(self.history), 2)

    def test_names_may_come_and_go(self):
        self.history.edit(("all", (("what", "a", ("bus",)), ("tracks", 0, 1, ()))))
        self.assertEqual(refused(self.history.edit, VOICES[0]), refusal(UnknownTrack, "t"))
        self.history.undo()
        self.history.edit(VOICES[0])
        self.assertEqual((voices_of(self.history), self.history.counts()), (1, (1, 0)))

    def test_histories_of_one_project_do_not_disturb_each_other(self):
        project = example()
        one, other = History(project), History(project)
        one.edit(VOICES[0])
        self.assertEqual((voices_of(other), other.counts()), (4, (0, 0)))

    def test_random_sessions(self):
        rng = random.Random(68)
        for _ in range(60):
            project = random_project(rng)
            history = History(project)
            row, at = [project], 0
            for _ in range(30):
                word = rng.choice(("edit", "edit", "undo", "redo"))
                if word == "edit":
                    edit = random_edit(rng, history.present)
                    expected = refused(done, row[at], edit)
                    found = refused(history.edit, edit)
                    if isinstance(expected, Project):
                        row, at, expected = row[:at + 1] + [expected], at + 1, None
                elif word == "undo":
                    expected, at = (None, at - 1) if at > 0 else (refusal(NothingToUndo), at)
                    found = refused(history.undo)
                else:
                    expected, at = (None, at + 1) if at + 1 < len(row) else (refusal(NothingToRedo), at)
                    found = refused(history.redo)
                self.assertEqual(found, expected)
                self.assertEqual(history.counts(), (at, len(row) - 1 - at))
                self.assertTrue(same_project(history.present, row[at]))


class TestLists(unittest.TestCase):
    def test_lists_of_the_present_project_are_new(self):
        history = History(Project(TEMPO, [TRACK], NODES[:1] + [OUT], []))
        history.edit(VOICES[0])
        history.present.tracks.clear()
        history.present.nodes.pop()
        history.undo()
        history.redo()
        self.assertEqual((voices_of(history), len(history.present.nodes)), (1, 2))


if __name__ == "__main__":
    unittest.main()
