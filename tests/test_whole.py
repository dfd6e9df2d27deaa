"""What the document promises over the whole program, and the examples that it shows."""

import doctest
import random
import unittest

from checks import refused
from projects import parts_of, random_edit, random_project
from told import told_sound

from everyblock.edits import done, inverse
from everyblock.engine import Engine
from everyblock.plain import samples
from everyblock.player import Player
from everyblock.project import Project, same_project
from everyblock.written import format_project, parse_project

# The examples of the document's beginning and of its interface.
EXAMPLES = r'''
>>> from everyblock.player import Player
>>> from everyblock.project import Project
>>> track = ("t", ("steps", 0, 0, (8000,)), 4, ((0, 8, 1, ((0, 3, 60, 127),)),))
>>> nodes = [("a", ("track", "t")), ("b", ("ahead", 2, 4000)), ("out", ("output",))]
>>> project = Project([(0, 1, 1)], [track], nodes, [("a", "b"), ("a", "out"), ("b", "out")])
>>> player = Player(project, 4)
>>> player.play(3)
[0, 0, 12000]
>>> player.edit(("notes", "t", 0, 0, 1, ((0, 2, 60, 127),)))
>>> player.play(3)
[12000, 0, 0]
>>> player.undo()
>>> player.seek(3)
>>> player.play(3)
[12000, 12000, 0]
>>> from everyblock.numbers import cut, through
>>> cut(9000000)
8388607
>>> through(-3, 32768)
-1
>>> from everyblock.tempo import frame_of, tick_at
>>> tempo = [(0, 5, 2), (3, 1, 3)]
>>> [frame_of(tempo, tick) for tick in range(8)]
[0, 2, 5, 7, 7, 8, 8, 8]
>>> tick_at(tempo, 8)
5
>>> from everyblock.notes import events_of
>>> events_of([(0, 1, 2)], [(0, 4, 2, ((1, 2, 60, 100), (0, 1, 62, 90)))])
[(0, 1, 60, 100), (0, 0, 62, 90), (2, 3, 60, 100), (2, 2, 62, 90)]
>>> from everyblock.curves import value_at
>>> [value_at([(2, 10), (5, 0)], frame) for frame in range(7)]
[10, 10, 10, 6, 3, 0, 0]
>>> from everyblock.instruments import voice_sample
>>> voice_sample(("square", 0, 0), (10, 12, 60, 127), 11)
8388607
>>> voice_sample(("square", 0, 0), (10, 12, 60, 127), 12)
0
>>> from everyblock.voices import spans_of
>>> spans_of([(0, 10, 60, 1), (2, 4, 62, 1), (3, 9, 64, 1)], 2, 1)
[(0, 3), (2, 5), (3, 10)]
>>> from everyblock.effects import effect_of
>>> tempo = [(0, 1, 1)]
>>> effect_of(("delay", 2, 32768, 65536), tempo).process([100, 0, 0, 0, 0, 0], 0)
[100, 0, 100, 0, 50, 0]
>>> effect_of(("smooth", 1), tempo).process([10, 10, 10, 10, 0], 0)
[5, 8, 9, 10, 5]
>>> effect_of(("ahead", 2, 1000), tempo).process([500, 0, 2000, 100, 0, 0], 0)
[0, 0, 250, 0, 1000, 100]
>>> from everyblock.written import parse_project
>>> text = "tempo 0 5 2\ntrack t 2 saw 0 1\nclip 0 4 2\nnote 1 2 60 100\nnode a track t\nnode o output\nline a o"
>>> project = parse_project(text)
>>> project.tracks
[('t', ('saw', 0, 1), 2, ((0, 4, 2, ((1, 2, 60, 100),)),))]
>>> project.nodes
[('a', ('track', 't')), ('o', ('output',))]
'''


class TestExamples(unittest.TestCase):
    def test_they_give_what_the_document_shows(self):
        examples = doctest.DocTestParser().get_doctest(EXAMPLES, {}, "DOC.md", "DOC.md", 0)
        reports = []
        found = doctest.DocTestRunner(verbose=False).run(examples, out=reports.append)
        self.assertEqual("".join(reports), "")
        self.assertEqual(found.attempted, 38)


def edited(rng, project, many):
    """The projects behind some random edits, the first one ahead of them, and the edits that could be done."""
    projects, edits = [project], []
    for _ in range(many):
        edit = random_edit(rng, projects[-1])
        found = refused(done, projects[-1], edit)
        if isinstance(found, Project):
            projects.append(found)
            edits.append(edit)
    return projects, edits


class TestSound(unittest.TestCase):
    def test_it_does_not_depend_on_how_it_is_played(self):
        rng = random.Random(1)
        heard = 0
        for _ in range(80):
            project = random_project(rng)
            expected = told_sound(*parts_of(project), 60)
            heard += any(expected)
            self.assertEqual(samples(project, 60), expected)
            self.assertEqual(Engine(project).process(60), expected)
            player = Player(project, rng.choice((1, 3, 8, 50)))
            for _ in range(12):
                frame = rng.randint(0, 55)
                player.seek(frame)
                count = rng.randint(0, 60 - frame)
                self.assertEqual(player.play(count), expected[frame:frame + count])
        self.assertGreater(heard, 30)

    def test_it_does_not_depend_on_what_was_edited_before(self):
        rng = random.Random(2)
        for _ in range(40):
            projects, edits = edited(rng, random_project(rng), 8)
            player = Player(projects[0], rng.choice((1, 4, 30)))
            player.play(rng.randint(0, 50))
            for project, edit in zip(projects[1:], edits):
                player.edit(edit)
                frame = player.frame()
                self.assertEqual(player.play(5), told_sound(*parts_of(project), frame + 5)[frame:])
                player.seek(rng.randint(0, 50))
            frame = player.frame()
            fresh = Player(parse_project(format_project(projects[-1])), 7)
            fresh.seek(frame)
            self.assertEqual(player.play(30), fresh.play(30))

    def test_undoing_and_inverse_edits_lead_back_to_the_same_sound(self):
        rng = random.Random(3)
        for _ in range(40):
            projects, edits = edited(rng, random_project(rng), 6)
            player, other = Player(projects[0], 5), Player(projects[0], 9)
            for edit in edits:
                player.edit(edit)
                other.edit(edit)
            player.play(23)
            for project, edit in reversed(list(zip(projects, edits))):
                player.undo()
                other.edit(inverse(project, edit))
                self.assertTrue(same_project(player.project(), project))
                self.assertTrue(same_project(other.project(), project))
                other.seek(player.frame())
                self.assertEqual(player.play(3), other.play(3))
            player.seek(0)
            self.assertEqual(player.play(40), samples(projects[0], 40))


if __name__ == "__main__":
    unittest.main()
