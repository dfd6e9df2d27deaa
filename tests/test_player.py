"""Points 6.7 to 6.9, and the interface of everyblock.player."""

import inspect
import random
import unittest

from checks import NO_INTEGERS, refusal, refused
from projects import NODES, OUT, TEMPO, TRACK, example, flat_track, parts_of, random_edit, random_project
from told import ToldPlayer

from everyblock import player as player_module
from everyblock.edits import done, first_change
from everyblock.engine import Engine
from everyblock.errors import (BadCount, BadEdit, BadFrame, BadVoices, NothingToRedo, NothingToUndo, OneOutput,
                               UnknownTrack)
from everyblock.history import History
from everyblock.plain import samples
from everyblock.player import EVERY_MOST, Player
from everyblock.project import Project, same_project

SOUND = [0, 0, 12000, 12000, 12000] + [0] * 200
SHORTER = ("notes", "t", 0, 0, 1, ((0, 2, 60, 127),))
NOTHING = ("all", ())


def noted_from(tick):
    """An edit of the example that changes nothing before the frame of this tick."""
    return ("notes", "t", 0, 1, 1, ((tick, 1, 60, 127),))


def all_of(player):
    """All that a player tells of itself."""
    return parts_of(player.project()), player.frame(), player.kept(), player.counts()


def at_frame(every, frame, project=None):
    player = Player(project or example(), every)
    player.play(frame)
    return player


class TestInterface(unittest.TestCase):
    def test_the_class_stands_in_this_file_with_its_methods(self):
        self.assertEqual((Player.__module__, EVERY_MOST), ("everyblock.player", 100000))
        self.assertEqual(player_module.EVERY_MOST, 100000)
        self.assertEqual(str(inspect.signature(Player)), "(project, every)")
        for name, parameters in (("project", "(self)"), ("frame", "(self)"), ("kept", "(self)"), ("counts", "(self)"),
                                 ("play", "(self, count)"), ("seek", "(self, frame)"), ("forget", "(self)"),
                                 ("edit", "(self, edit)"), ("undo", "(self)"), ("redo", "(self)")):
            self.assertEqual(str(inspect.signature(vars(Player)[name])), parameters)

    def test_methods_that_return_none(self):
        player = Player(example(), 4)
        self.assertEqual((player.seek(5), player.forget(), player.edit(SHORTER), player.undo(), player.redo()),
                         (None,) * 5)

    def test_the_project_is_not_modified(self):
        project = example()
        before = parts_of(project)
        player = Player(project, 4)
        player.play(9)
        player.edit(("all", (SHORTER, ("lines", 0, 1, ()))))
        player.seek(3)
        self.assertEqual(parts_of(project), before)

    def test_lists_are_new(self):
        player = at_frame(2, 5)
        player.kept().clear()
        player.kept().append(9)
        self.assertEqual(player.kept(), [0, 2, 4])
        player.play(0).append(1)
        self.assertEqual(player.play(0), [])


class TestExample(unittest.TestCase):
    def test_the_example_of_the_beginning(self):
        nodes = [("a", ("track", "t")), ("b", ("ahead", 2, 4000)), ("out", ("output",))]
        project = Project([(0, 1, 1)], [TRACK], nodes, [("a", "b"), ("a", "out"), ("b", "out")])
        player = Player(project, 4)
        self.assertEqual(player.play(3), [0, 0, 12000])
        player.edit(("notes", "t", 0, 0, 1, ((0, 2, 60, 127),)))
        self.assertEqual(player.play(3), [12000, 0, 0])
        player.undo()
        player.seek(3)
        self.assertEqual(player.play(3), [12000, 12000, 0])


class TestMade(unittest.TestCase):
    def test_it_starts_at_frame_0(self):
        player = Player(example(), 4)
        self.assertEqual(all_of(player), (parts_of(example()), 0, [0], (0, 0)))
        self.assertTrue(same_project(player.project(), example()))

    def test_every(self):
        for every in (1, 2, 99999, 100000):
            self.assertEqual(Player(example(), every).play(4), SOUND[:4])
        for every in (0, -1, 100001, 10 ** 30) + NO_INTEGERS:
            self.assertEqual(refused(Player, example(), every), refusal(BadCount))

    def test_players_of_one_project_do_not_disturb_each_other(self):
        project = example()
        one, other = Player(project, 2), Player(project, 3)
        one.play(4)
        one.edit(SHORTER)
        self.assertEqual(all_of(other), (parts_of(example()), 0, [0], (0, 0)))
        self.assertEqual(other.play(5), SOUND[:5])


class TestPlay(unittest.TestCase):
    def test_it_goes_on_behind_what_it_returned(self):
        player = Player(example(), 4)
        found = []
        for count in (0, 1, 1, 0, 5, 2, 0):
            given = player.play(count)
            self.assertEqual((len(given), given.__class__), (count, list))
            found += given
            self.assertEqual(player.frame(), len(found))
        self.assertEqual(found, SOUND[:9])

    def test_a_checkpoint_at_each_multiple_that_it_comes_to(self):
        player = Player(example(), 4)
        for count, kept in ((3, [0]), (1, [0, 4]), (0, [0, 4]), (3, [0, 4]), (2, [0, 4, 8]),
                            (11, [0, 4, 8, 12, 16, 20])):
            player.play(count)
            self.assertEqual(player.kept(), kept)

    def test_every_frame(self):
        player = Player(example(), 1)
        self.assertEqual(player.play(0), [])
        self.assertEqual(player.kept(), [0])
        self.assertEqual(player.play(7), SOUND[:7])
        self.assertEqual(player.kept(), list(range(8)))

    def test_every_100000_frames(self):
        track = flat_track("t", 700, (0, 1), (99999, 2))
        project = Project(TEMPO, [track], [("a", ("track", "t")), ("d", ("delay", 1, 0, 65536)), OUT],
                          [("a", "d"), ("d", "out")])
        player = Player(project, EVERY_MOST)
        self.assertEqual(player.play(99999), [700, 700] + [0] * 99997)
        self.assertEqual(player.kept(), [0])
        self.assertEqual(player.play(1), [700])
        self.assertEqual(player.kept(), [0, 100000])
        self.assertEqual(player.play(3), [1400, 700, 0])
        player.seek(100001)
        self.assertEqual((player.play(1), player.kept()), ([700], [0, 100000]))

    def test_what_is_no_count(self):
        player = at_frame(2, 3)
        before = all_of(player)
        for count in (-1, -10 ** 30) + NO_INTEGERS:
            self.assertEqual(refused(player.play, count), refusal(BadCount))
            self.assertEqual(all_of(player), before)
        self.assertEqual(player.play(2), SOUND[3:5])


class TestSeek(unittest.TestCase):
    def test_it_goes_to_the_frame(self):
        for every in (1, 2, 3, 4, 7, 100):
            for start in range(0, 10):
                for frame in range(0, 12):
                    player = at_frame(every, start)
                    player.seek(frame)
                    self.assertEqual(player.frame(), frame)
                    most = max(start, frame)
                    self.assertEqual(player.kept(), list(range(0, most + 1, every)))
                    self.assertEqual(player.play(4), SOUND[frame:frame + 4])

    def test_the_present_frame(self):
        player = at_frame(4, 3)
        player.seek(3)
        self.assertEqual((player.frame(), player.kept(), player.play(3)), (3, [0], SOUND[3:6]))
        player = at_frame(4, 4)
        player.forget()
        player.seek(4)
        self.assertEqual((player.frame(), player.kept(), player.play(3)), (4, [0], SOUND[4:7]))

    def test_to_a_checkpoint_behind_the_last_one_and_back_to_0(self):
        player = at_frame(4, 9)
        for frame, kept in ((4, [0, 4, 8]), (8, [0, 4, 8]), (11, [0, 4, 8]), (0, [0, 4, 8, 12]),
                            (17, [0, 4, 8, 12, 16]), (3, [0, 4, 8, 12, 16]), (16, [0, 4, 8, 12, 16]),
                            (12, [0, 4, 8, 12, 16])):
            player.seek(frame)
            self.assertEqual((player.frame(), player.kept()), (frame, kept))
            self.assertEqual(player.play(2), SOUND[frame:frame + 2])
            player.seek(frame)

    def test_from_the_present_frame_it_keeps_nothing_before_it(self):
        player = at_frame(4, 10)
        player.forget()
        player.seek(14)
        self.assertEqual(player.kept(), [0, 12])
        player.seek(20)
        self.assertEqual(player.kept(), [0, 12, 16, 20])

    def test_a_checkpoint_on_the_way_is_where_it_goes_from(self):
        for start, frame, kept in ((1, 14, [0, 12, 16]), (1, 12, [0, 12, 16]), (1, 16, [0, 12, 16]),
                                   (1, 11, [0, 4, 8, 12, 16]), (13, 15, [0, 12, 16]), (13, 21, [0, 12, 16, 20])):
            player = at_frame(4, 10)
            player.forget()
            player.play(8)
            self.assertEqual(player.kept(), [0, 12, 16])
            player.seek(start)
            # Whatever lies before the checkpoint that it goes from is not come to.
            player.seek(frame)
            self.assertEqual((player.frame(), player.kept()), (frame, kept))
            self.assertEqual(player.play(5), SOUND[frame:frame + 5])

    def test_it_goes_back_from_the_last_checkpoint_before_the_frame(self):
        player = at_frame(4, 10)
        player.forget()
        player.play(8)
        player.seek(9)
        self.assertEqual((player.frame(), player.kept()), (9, [0, 4, 8, 12, 16]))

    def test_a_checkpoint_that_was_dropped_is_kept_again_only_if_it_is_come_to(self):
        player = at_frame(2, 9)
        player.forget()
        player.seek(9)
        self.assertEqual(player.kept(), [0])
        player.seek(8)
        self.assertEqual(player.kept(), [0, 2, 4, 6, 8])

    def test_seeking_far(self):
        player = Player(example(), 1000)
        player.seek(5000)
        self.assertEqual((player.frame(), player.kept()), (5000, [0, 1000, 2000, 3000, 4000, 5000]))
        player.seek(2)
        self.assertEqual(player.play(3), SOUND[2:5])

    def test_what_is_no_frame(self):
        player = at_frame(2, 3)
        before = all_of(player)
        for frame in (-1, -10 ** 30) + NO_INTEGERS:
            self.assertEqual(refused(player.seek, frame), refusal(BadFrame))
            self.assertEqual(all_of(player), before)
        self.assertEqual(player.play(2), SOUND[3:5])


class TestForget(unittest.TestCase):
    def test_all_but_the_one_at_0(self):
        player = at_frame(2, 9)
        player.forget()
        self.assertEqual((player.kept(), player.frame()), ([0], 9))
        self.assertEqual(player.play(3), SOUND[9:12])
        self.assertEqual(player.kept(), [0, 10, 12])
        player.forget()
        player.seek(1)
        self.assertEqual((player.kept(), player.play(4)), ([0], SOUND[1:5]))

    def test_at_frame_0(self):
        player = Player(example(), 2)
        player.forget()
        player.forget()
        self.assertEqual((player.kept(), player.play(5)), ([0], SOUND[:5]))

    def test_it_is_no_edit(self):
        player = at_frame(2, 5)
        player.edit(SHORTER)
        player.undo()
        player.forget()
        self.assertEqual(player.counts(), (0, 1))


class TestEdit(unittest.TestCase):
    def edited(self, every, start, frame, edit):
        """The checkpoints behind an edit of a player that played up to start and went to a frame."""
        player = at_frame(every, start)
        player.seek(frame)
        player.edit(edit)
        self.assertEqual((player.frame(), player.counts()), (frame, (1, 0)))
        expected = samples(done(example(), edit), frame + 30)
        self.assertEqual(player.play(30), expected[frame:])
        player.seek(frame)
        self.assertEqual(player.play(30), expected[frame:])
        again = at_frame(every, start)
        again.seek(frame)
        again.edit(edit)
        return again.kept()

    def test_checkpoints_behind_the_first_changed_frame_are_dropped(self):
        self.assertEqual(self.edited(4, 19, 3, noted_from(8)), [0, 4, 8])
        self.assertEqual(self.edited(4, 19, 3, noted_from(9)), [0, 4, 8])
        self.assertEqual(self.edited(4, 19, 3, noted_from(7)), [0, 4])
        self.assertEqual(self.edited(4, 19, 3, noted_from(40)), [0, 4, 8, 12, 16])
        self.assertEqual(self.edited(4, 19, 3, noted_from(0)), [0])
        self.assertEqual(self.edited(4, 19, 3, ("voices", "t", 1)), [0])

    def test_it_goes_on_to_the_present_frame_and_keeps_checkpoints_on_the_way(self):
        self.assertEqual(self.edited(4, 19, 19, noted_from(8)), [0, 4, 8, 12, 16])
        self.assertEqual(self.edited(4, 19, 12, noted_from(5)), [0, 4, 8, 12])
        self.assertEqual(self.edited(4, 19, 13, noted_from(5)), [0, 4, 8, 12])
        self.assertEqual(self.edited(4, 19, 11, noted_from(5)), [0, 4, 8])
        self.assertEqual(self.edited(4, 19, 11, ("voices", "t", 1)), [0, 4, 8])
        self.assertEqual(self.edited(4, 19, 0, ("voices", "t", 1)), [0])

    def test_none_is_dropped_if_nothing_changes(self):
        for edit in (NOTHING, ("notes", "t", 0, 0, 1, ((0, 3, 60, 127),)), ("tempo", ((0, 2, 2),)),
                     ("clips", "t", 1, 1, ((5, 5, 5, ()),))):
            self.assertEqual(self.edited(4, 19, 3, edit), [0, 4, 8, 12, 16])
            self.assertEqual(self.edited(4, 19, 19, edit), [0, 4, 8, 12, 16])

    def test_at_a_checkpoint_ahead_of_it_and_behind_it(self):
        for frame in (7, 8, 9):
            for tick in (6, 7, 8, 9, 10):
                kept = [at for at in (0, 4, 8, 12, 16) if at <= max(tick, frame)]
                self.assertEqual(self.edited(4, 19, frame, noted_from(tick)), kept)

    def test_it_goes_on_from_the_last_checkpoint_also_if_nothing_changes(self):
        player = at_frame(4, 9)
        player.forget()
        player.edit(NOTHING)
        self.assertEqual((player.frame(), player.kept()), (9, [0, 4, 8]))
        self.assertEqual(player.play(3), SOUND[9:12])
        player = at_frame(4, 8)
        player.forget()
        player.edit(noted_from(30))
        self.assertEqual((player.frame(), player.kept()), (8, [0, 4, 8]))

    def test_the_checkpoint_at_0_is_that_of_the_present_project(self):
        player = Player(example(), 4)
        for edit in (("what", "b", ("delay", 5, 65536, 65536)), ("what", "b", ("ahead", 6, 1000)),
                     ("nodes", 0, 0, (("z", ("smooth", 2)),)), ("lines", 0, 0, (("z", "out"), ("a", "z"))),
                     ("nodes", 1, 1, (("y", ("ahead", 9, 9)),)), ("lines", 1, 2, (("a", "y"), ("y", "z")))):
            player.edit(edit)
            expected = samples(player.project(), 30)
            for frame in (9, 0, 5, 0):
                player.seek(frame)
                self.assertEqual(player.play(12), expected[frame:frame + 12])

    def test_undo_and_redo_are_done_as_edits_are(self):
        player = at_frame(4, 19)
        player.edit(noted_from(9))
        self.assertEqual(player.counts(), (1, 0))
        player.seek(2)
        player.undo()
        self.assertEqual((player.frame(), player.kept(), player.counts()), (2, [0, 4, 8], (0, 1)))
        self.assertEqual(player.play(20), SOUND[2:22])
        player.redo()
        self.assertEqual((player.frame(), player.kept(), player.counts()), (22, [0, 4, 8, 12, 16, 20], (1, 0)))
        expected = samples(done(example(), noted_from(9)), 40)
        self.assertEqual(player.play(9), expected[22:31])
        player.seek(7)
        self.assertEqual(player.play(9), expected[7:16])

    def test_the_project_is_the_one_of_the_history(self):
        player, history = Player(example(), 4), History(example())
        for edit in (SHORTER, NOTHING, noted_from(3), ("voices", "t", 2)):
            player.edit(edit)
            history.edit(edit)
            self.assertTrue(same_project(player.project(), history.present))
        for word in ("undo", "undo", "redo", "undo", "undo"):
            getattr(player, word)()
            getattr(history, word)()
            self.assertTrue(same_project(player.project(), history.present))
            self.assertEqual(player.counts(), history.counts())

    def test_a_shorter_note_changes_from_its_new_end_on(self):
        self.assertEqual(self.edited(2, 9, 9, SHORTER), [0, 2, 4, 6, 8])
        self.assertEqual(self.edited(2, 9, 1, SHORTER), [0, 2])
        self.assertEqual(self.edited(1, 9, 1, SHORTER), [0, 1, 2])

    def test_points_of_a_gain(self):
        project = Project([(0, 1, 2)], [TRACK], NODES[:2] + [("g", ("gain", ((0, 65536), (8, 0), (20, 0)))), OUT],
                          [("a", "b"), ("b", "g"), ("g", "out")])
        for edit, kept in ((("points", "g", 1, 2, ((9, 0),)), [0, 2, 4, 6, 8, 10]),
                           (("points", "g", 2, 3, ()), [0, 2, 4]), (("points", "g", 1, 3, ()), [0]),
                           (("points", "g", 3, 3, ((30, 9),)), [0, 2, 4, 6, 8, 10])):
            player = at_frame(2, 11, project)
            player.seek(1)
            player.edit(edit)
            self.assertEqual(player.kept(), kept)
            self.assertEqual(player.play(14), samples(done(project, edit), 15)[1:])


class TestErrors(unittest.TestCase):
    def test_what_raises_an_error_changes_nothing(self):
        player = at_frame(2, 7)
        player.edit(SHORTER)
        player.edit(noted_from(6))
        player.undo()
        player.seek(5)
        before = all_of(player)
        good = ("voices", "t", 1)
        for edit, error in (((), refusal(BadEdit)), (("voices", "t"), refusal(BadEdit)),
                            (("voices", "x", 1), refusal(UnknownTrack, "x")), (("voices", "t", 17), refusal(BadVoices)),
                            (("notes", "t", 0, 2, 1, ()), refusal(BadEdit)), (("nodes", 2, 3, ()), refusal(OneOutput)),
                            (("all", (good, noted_from(3), ("voices", "t", 0))), refusal(BadVoices)),
                            (("all", (good, ("all", (NOTHING, ("notes", "t", 9, 0, 0, ()))))), refusal(BadEdit))):
            self.assertEqual(refused(player.edit, edit), error)
            self.assertEqual(all_of(player), before)
        expected = samples(done(example(), SHORTER), 20)
        self.assertEqual(player.play(9), expected[5:14])

    def test_nothing_to_undo_or_redo(self):
        player = at_frame(2, 5)
        before = all_of(player)
        self.assertEqual(refused(player.undo), refusal(NothingToUndo))
        self.assertEqual(refused(player.redo), refusal(NothingToRedo))
        self.assertEqual(all_of(player), before)
        player.edit(SHORTER)
        self.assertEqual(refused(player.redo), refusal(NothingToRedo))
        player.undo()
        self.assertEqual(refused(player.undo), refusal(NothingToUndo))
        self.assertEqual(player.counts(), (0, 1))
        self.assertEqual(player.play(3), SOUND[5:8])


class TestKeptStates(unittest.TestCase):
    def test_it_goes_on_from_checkpoints_and_not_from_the_beginning(self):
        blocks = []

        class Counted(Engine):
            def process(self, count):
                blocks.append(count)
                return Engine.process(self, count)

        player_module.Engine = Counted
        try:
            player = at_frame(10, 1000)
            blocks.clear()
            player.edit(noted_from(995))
            self.assertEqual(sum(blocks), 10)
            player.seek(503)
            player.edit(NOTHING)
            player.undo()
            self.assertEqual(sum(blocks), 19)
            player.seek(509)
            self.assertEqual(sum(blocks), 25)
        finally:
            player_module.Engine = Engine


class TestRandom(unittest.TestCase):
    def session(self, rng, every):
        player, told = Player(random_project(rng), every), ToldPlayer(every)
        for _ in range(40):
            before = player.project()
            word = rng.choice(("play", "play", "seek", "edit", "edit", "undo", "redo", "forget"))
            if word == "play":
                count = rng.choice((0, 1, 2, 5, 11))
                sound = samples(before, player.frame() + count)
                self.assertEqual(player.play(count), sound[len(sound) - count:])
                told.play(count)
            elif word == "seek":
                frame = rng.choice((0, player.frame(), rng.randint(0, 50), rng.choice(player.kept())))
                player.seek(frame)
                told.seek(frame)
            elif word == "forget":
                player.forget()
                told.forget()
            else:
                arguments = (random_edit(rng, before),) if word == "edit" else ()
                if refused(getattr(player, word), *arguments) is None:
                    told.change(first_change(before, player.project()))
                else:
                    self.assertTrue(same_project(player.project(), before))
            self.assertEqual((player.frame(), player.kept()), (told.frame, told.kept))
        sound = samples(player.project(), player.frame() + 20)
        self.assertEqual(player.play(20), sound[-20:])

    def test_random_sessions(self):
        rng = random.Random(69)
        for _ in range(150):
            self.session(rng, rng.choice((1, 2, 3, 7, 20, 1000)))


if __name__ == "__main__":
    unittest.main()
