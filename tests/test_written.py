"""Points 7.1 to 7.3, and the interface of everyblock.written."""

import copy
import random
import unittest

from checks import refusal, refused, stand_in
from projects import FLAT, OUT, TEMPO, TRACK, example, parts_of, random_project

from everyblock import written
from everyblock.errors import (BadClip, BadEffect, BadInstrument, BadLine, BadLineEnd, BadNode, BadNote, BadPoint,
                               BadTempo, BadTrack, BadVoices, DuplicateLine, DuplicateNode, DuplicateTrack, OneOutput,
                               Ring, UnknownNode, UnknownTrack)
from everyblock.project import Project, same_project
from everyblock.written import format_project, parse_project

EXAMPLE = """tempo 0 1 1
track t 4 steps 0 0 8000
clip 0 8 1
note 0 3 60 127
node a track t
node b ahead 2 4000
node out output
line a b
line a out
line b out"""
WIDE = """tempo 0 5 2
tempo 3 1000 100
tempo 1000000 1 1
track t 1 saw 0 1000
track steps 16 square 7 8
clip 100000 1 100
clip 0 100000 1
note 100000 1 127 1
note 0 100000 0 127
clip 4 5 6
note 1 2 3 4
track track 2 steps 1 2 -8388608 0 -1 8388607
track node 3 steps 0 0 5
clip 0 1 1
node a track steps
node b bus
node c pass
node d gain 0 262144
node e gain 0 0 7 65536 1000000 1
node f delay 64 262144 0
node g smooth 8
node h ahead 32 8388607
node track track track
node note output
line b note
line a b"""
ROWS = EXAMPLE.split("\n")


def with_row(index, row):
    """The rows of the example with another one."""
    return "\n".join(ROWS[:index] + [row] + ROWS[index + 1:])


class TestInterface(unittest.TestCase):
    def test_functions_stand_in_this_file(self):
        self.assertIs(stand_in(written, {"format_project": "(project)", "parse_project": "(text)"}), True)

    def test_the_project_is_not_modified(self):
        project = parse_project(WIDE)
        before = copy.deepcopy(parts_of(project))
        format_project(project)
        self.assertEqual(parts_of(project), before)


class TestFormat(unittest.TestCase):
    def test_the_example_of_the_beginning(self):
        self.assertEqual(format_project(example()), EXAMPLE)

    def test_the_least_project(self):
        self.assertEqual(format_project(Project(TEMPO, [], [OUT], [])), "tempo 0 1 1\nnode out output")

    def test_tracks_with_all_that_may_be_none(self):
        tracks = [("t", FLAT, 1, ()), ("u", FLAT, 1, ((1, 2, 3, ()), (4, 5, 6, ())))]
        self.assertEqual(format_project(Project(TEMPO, tracks, [OUT], [])), "\n".join((
            "tempo 0 1 1", "track t 1 steps 0 0 8000", "track u 1 steps 0 0 8000", "clip 1 2 3", "clip 4 5 6",
            "node out output")))

    def test_samples_below_0(self):
        tracks = [("t", ("steps", 0, 0, (-8388608, -1, 0, 10)), 1, ())]
        self.assertEqual(format_project(Project(TEMPO, tracks, [OUT], [])).split("\n")[1],
                         "track t 1 steps 0 0 -8388608 -1 0 10")

    def test_each_kind_of_node(self):
        nodes = [("t", ("track", "t")), ("b", ("bus",)), ("p", ("pass",)), ("g", ("gain", ((0, 1), (20, 0)))),
                 ("d", ("delay", 1, 2, 3)), ("s", ("smooth", 4)), ("l", ("ahead", 5, 6)), OUT]
        rows = format_project(Project(TEMPO, [TRACK], nodes, [("l", "s"), ("b", "p")])).split("\n")
        self.assertEqual(rows[4:], [
            "node t track t", "node b bus", "node p pass", "node g gain 0 1 20 0", "node d delay 1 2 3",
            "node s smooth 4", "node l ahead 5 6", "node out output", "line l s", "line b p"])

    def test_each_instrument(self):
        tracks = [("a", ("saw", 1, 2), 3, ()), ("b", ("square", 0, 1000), 16, ()), ("c", ("steps", 4, 5, (6,)), 1, ())]
        rows = format_project(Project(TEMPO, tracks, [OUT], [])).split("\n")
        self.assertEqual(rows[1:4], ["track a 3 saw 1 2", "track b 16 square 0 1000", "track c 1 steps 4 5 6"])


class TestParse(unittest.TestCase):
    def test_the_example_of_the_interface(self):
        project = parse_project("tempo 0 5 2\ntrack t 2 saw 0 1\nclip 0 4 2\nnote 1 2 60 100\n"
                                "node a track t\nnode o output\nline a o")
        self.assertEqual(project.tracks, [("t", ("saw", 0, 1), 2, ((0, 4, 2, ((1, 2, 60, 100),)),))])
        self.assertEqual(project.nodes, [("a", ("track", "t")), ("o", ("output",))])
        self.assertEqual((project.tempo, project.lines), ([(0, 5, 2)], [("a", "o")]))

    def test_the_example_of_the_beginning(self):
        self.assertTrue(same_project(parse_project(EXAMPLE), example()))

    def test_all_kinds(self):
        project = parse_project(WIDE)
        self.assertEqual(project.tempo, [(0, 5, 2), (3, 1000, 100), (1000000, 1, 1)])
        self.assertEqual(project.tracks, [
            ("t", ("saw", 0, 1000), 1, ()),
            ("steps", ("square", 7, 8), 16, ((100000, 1, 100, ()), (0, 100000, 1, ((100000, 1, 127, 1), (
                0, 100000, 0, 127))), (4, 5, 6, ((1, 2, 3, 4),)))),
            ("track", ("steps", 1, 2, (-8388608, 0, -1, 8388607)), 2, ()),
            ("node", ("steps", 0, 0, (5,)), 3, ((0, 1, 1, ()),)),
        ])
        self.assertEqual(project.nodes, [
            ("a", ("track", "steps")), ("b", ("bus",)), ("c", ("pass",)), ("d", ("gain", ((0, 262144),))),
            ("e", ("gain", ((0, 0), (7, 65536), (1000000, 1)))), ("f", ("delay", 64, 262144, 0)), ("g", ("smooth", 8)),
            ("h", ("ahead", 32, 8388607)), ("track", ("track", "track")), ("note", ("output",)),
        ])
        self.assertEqual(project.lines, [("b", "note"), ("a", "b")])

    def test_what_is_written_is_what_was_read(self):
        for text in (EXAMPLE, WIDE, "tempo 0 1 1\nnode out output"):
            self.assertEqual(format_project(parse_project(text)), text)

    def test_what_is_read_is_what_was_written(self):
        rng = random.Random(71)
        for _ in range(300):
            project = random_project(rng)
            text = format_project(project)
            self.assertTrue(same_project(parse_project(text), project))
            self.assertEqual(format_project(parse_project(text)), text)


class TestForms(unittest.TestCase):
    def bad(self, row, index):
        """The row in place of the example's row is the one that does not have its form."""
        self.assertEqual(refused(parse_project, with_row(index, row)), refusal(BadLine, index), row)

    def test_empty_lines(self):
        self.assertEqual(refused(parse_project, ""), refusal(BadLine, 0))
        self.assertEqual(refused(parse_project, "\n"), refusal(BadLine, 0))
        self.assertEqual(refused(parse_project, "\n" + EXAMPLE), refusal(BadLine, 0))
        self.assertEqual(refused(parse_project, EXAMPLE + "\n"), refusal(BadLine, 10))
        for index in range(10):
            self.bad("", index)
            self.bad(" ", index)

    def test_an_unknown_first_word(self):
        for index in range(10):
            for word in ("Tempo", "tracks", "bus", "0", "#", "TEMPO", "notes", "nod", "line,"):
                self.bad(" ".join([word] + ROWS[index].split(" ")[1:]), index)
                self.bad(word, index)

    def test_two_spaces_and_spaces_at_an_end(self):
        for index, row in enumerate(ROWS):
            self.bad(" " + row, index)
            self.bad(row + " ", index)
            words = row.split(" ")
            for at in range(1, len(words)):
                self.bad(" ".join(words[:at]) + "  " + " ".join(words[at:]), index)

    def test_other_blanks_are_none(self):
        for blank in ("\t", "\u00a0", "\r", "\x0b", "\u2003"):
            self.bad("tempo 0" + blank + "1 1", 0)
            self.bad("tempo" + blank + "0 1 1", 0)
        for ending in ("\r", "\t", "\x0c", "\x1c", "\u2028"):
            self.bad("tempo 0 1 1" + ending, 0)
            self.assertEqual(refused(parse_project, "tempo 0 1 1" + ending + "node out output"), refusal(BadLine, 0))

    def test_words_that_are_too_many_or_too_few(self):
        for index, row in enumerate(ROWS):
            words = row.split(" ")
            for many in range(1, len(words)):
                if not (index == 1 and many == 6):
                    self.bad(" ".join(words[:many]), index)
            if index != 1:
                self.bad(row + " 0", index)
            self.bad(row + " a", index)

    def test_words_of_instruments(self):
        for words in ("", "saw", "saw 0", "saw 0 0 0", "square", "square 1", "square 1 2 3", "steps", "steps 0",
                      "steps 0 x", "steps 0 0 x", "steps 0 0 1 2 x", "saw x 0", "saw 0 x", "sine 0 0", "Saw 0 0",
                      "0 0 0", "steps 0 0 ", "steps 0 0  1", "bus 0 0", "gain 0 0"):
            self.bad("track t 4 " + words, 1)
        self.bad("track t saw 0 0", 1)
        self.bad("track t x saw 0 0", 1)
        self.bad("track t  saw 0 0", 1)
        self.bad("track saw 0 0", 1)
        for word in ("track", "track t", "track t 4"):
            self.bad(word, 1)

    def test_words_of_nodes(self):
        for words in ("", "track", "track t t", "track t ", "bus 0", "bus ", "output 1", "output out", "pass 0",
                      "gain 0", "gain 0 0 1", "gain x 0", "gain 0 x", "gain ", "gain 0 0 ", "gain 0 0  0", "delay",
                      "delay 1 2", "delay 1 2 3 4", "delay x 2 3", "delay 1 2 x", "smooth", "smooth 1 2", "smooth x",
                      "ahead", "ahead 1", "ahead 1 2 3", "ahead 1 x", "none", "Bus", "saw 0 0", "steps 0 0 1", "0"):
            self.bad("node b " + words, 5)
        self.bad("node", 5)
        self.bad("node b", 5)
        self.bad("node bus", 5)

    def test_words_of_lines(self):
        for words in ("line", "line a", "line a b b", "line a b "):
            self.bad(words, 7)

    def test_numbers(self):
        numbers = ("01", "00", "-0", "-00", "-01", "+1", "+0", "1.0", "1e1", "0x1", "1_0", "", "-", "--1", "1-", "a",
                   "1a", "\u0661", "\u00b2", "\uff11", "1234567890", "-1234567890", "0000000001", "1000000000",
                   "True", "None", "9" * 5000)
        for number in numbers:
            for at in range(1, 4):
                words = ["0", "8", "1"]
                words[at - 1] = number
                self.bad("tempo " + " ".join(words), 0)
                self.bad("clip " + " ".join(words), 2)
                self.bad("note 1 " + " ".join(words), 3)
            self.bad("note " + number + " 1 1 1", 3)
            self.bad("track t " + number + " saw 0 0", 1)
            self.bad("track t 4 saw " + number + " 0", 1)
            self.bad("track t 4 square 0 " + number, 1)
            self.bad("track t 4 steps 0 0 1 " + number + " 1", 1)
            for words in ("smooth " + number, "ahead 1 " + number, "delay 1 " + number + " 1",
                          "gain 0 0 1 " + number, "gain 0 0 " + number + " 1"):
                self.bad("node b " + words, 5)

    def test_numbers_that_have_their_form(self):
        for number in ("0", "9", "10", "-1", "-10", "999999999", "-999999999", "100000000", "-123456789"):
            value = int(number)
            if not 1 <= value <= 16:
                self.assertEqual(refused(parse_project, with_row(1, "track t " + number + " saw 0 0")),
                                 refusal(BadVoices))
            if not 1 <= value <= 8:
                self.assertEqual(refused(parse_project, with_row(5, "node b smooth " + number)),
                                 refusal(BadEffect, ("smooth", value)))
            if not -8388608 <= value <= 8388607:
                self.assertEqual(refused(parse_project, with_row(1, "track t 1 steps 0 0 1 " + number)),
                                 refusal(BadInstrument, 3))

    def test_the_first_line_counts(self):
        for first in range(10):
            for second in range(first + 1, 10):
                rows = list(ROWS)
                rows[first] = rows[second] = "none"
                self.assertEqual(refused(parse_project, "\n".join(rows)), refusal(BadLine, first))


class TestOrder(unittest.TestCase):
    def test_a_line_of_a_later_kind_ahead_of_an_earlier_one(self):
        kinds = (("tempo 0 1 1",), ("track t 1 saw 0 0",), ("node a bus",), ("line a b",))
        for later in range(4):
            for earlier in range(later):
                for between in ((), kinds[later], kinds[later] * 2):
                    rows = kinds[later] + between + kinds[earlier]
                    self.assertEqual(refused(parse_project, "\n".join(rows)), refusal(BadLine, len(rows) - 1))

    def test_behind_a_clip_or_a_note_there_is_no_tempo(self):
        rows = ["tempo 0 1 1", "track t 1 saw 0 0", "clip 0 1 1", "note 0 1 1 1"]
        for many in (2, 3, 4):
            self.assertEqual(refused(parse_project, "\n".join(rows[:many] + rows[:1])), refusal(BadLine, many))

    def test_a_clip_or_a_note_behind_nodes_and_lines(self):
        for row in ("track u 1 saw 0 0", "clip 0 1 1", "note 0 1 1 1", "tempo 1 1 1"):
            for many in range(5, 11):
                self.assertEqual(refused(parse_project, "\n".join(ROWS[:many] + [row])), refusal(BadLine, many))
        self.assertEqual(refused(parse_project, "\n".join(ROWS + ["node c bus"])), refusal(BadLine, 10))

    def test_a_clip_stands_behind_a_track(self):
        self.assertEqual(refused(parse_project, "clip 0 1 1"), refusal(BadLine, 0))
        self.assertEqual(refused(parse_project, "tempo 0 1 1\nclip 0 1 1"), refusal(BadLine, 1))
        self.assertEqual(refused(parse_project, "node out output\nclip 0 1 1"), refusal(BadLine, 1))

    def test_a_note_stands_behind_a_clip_of_the_last_track(self):
        self.assertEqual(refused(parse_project, "note 0 1 1 1"), refusal(BadLine, 0))
        self.assertEqual(refused(parse_project, "tempo 0 1 1\nnote 0 1 1 1"), refusal(BadLine, 1))
        self.assertEqual(refused(parse_project, "tempo 0 1 1\ntrack t 1 saw 0 0\nnote 0 1 1 1"), refusal(BadLine, 2))
        rows = ["tempo 0 1 1", "track t 1 saw 0 0", "clip 0 1 1", "note 0 1 1 1", "track u 1 saw 0 0", "note 0 1 1 1"]
        self.assertEqual(refused(parse_project, "\n".join(rows)), refusal(BadLine, 5))
        rows.insert(5, "clip 9 9 9")
        project = parse_project("\n".join(rows + ["node out output"]))
        self.assertEqual([track[3] for track in project.tracks],
                         [((0, 1, 1, ((0, 1, 1, 1),)),), ((9, 9, 9, ((0, 1, 1, 1),)),)])

    def test_the_order_counts_ahead_of_a_later_form(self):
        self.assertEqual(refused(parse_project, "tempo 0 1 1\nnode a bus\ntempo 1 1 1\nnone"), refusal(BadLine, 2))
        self.assertEqual(refused(parse_project, "tempo 0 1 1\nnode a\ntempo 1 1 1"), refusal(BadLine, 1))


class TestProjects(unittest.TestCase):
    def error_of(self, index, row, error):
        self.assertEqual(refused(parse_project, with_row(index, row)), error, row)

    def test_the_error_of_the_project(self):
        self.error_of(0, "tempo 1 1 1", refusal(BadTempo, 0))
        self.error_of(0, "tempo 0 1 1\ntempo 0 1 1", refusal(BadTempo, 1))
        self.error_of(0, "tempo 0 -1 1", refusal(BadTempo, 0))
        self.error_of(1, "track t 0 saw 0 0", refusal(BadVoices))
        self.error_of(1, "track t 1 saw 0 -1", refusal(BadInstrument, 2))
        self.error_of(2, "clip 0 0 1", refusal(BadClip, 1))
        self.error_of(2, "clip 0 1 1\nnote 0 0 0 0\nclip 0 1 1", refusal(BadNote, 0))
        self.error_of(3, "note 0 1 0 1\nnote 0 1 128 1", refusal(BadNote, 1))
        self.error_of(3, "track t 1 saw 0 0", refusal(DuplicateTrack, "t"))
        self.error_of(4, "node a track x", refusal(UnknownTrack, "x"))
        self.error_of(5, "node a bus", refusal(DuplicateNode, "a"))
        self.error_of(5, "node b delay 0 0 0", refusal(BadEffect, ("delay", 0, 0, 0)))
        self.error_of(5, "node b gain 5 0 5 0", refusal(BadPoint, 1))
        self.error_of(6, "node out bus", refusal(OneOutput))
        self.error_of(7, "line a x", refusal(UnknownNode, "x"))
        self.error_of(7, "line out b", refusal(BadLineEnd, "out"))
        self.error_of(7, "line a out", refusal(DuplicateLine, 1))
        self.error_of(7, "line b b", refusal(Ring))

    def test_names_are_not_checked_by_reading(self):
        for name in ("", "A", "a1", "0", "abcdefghi", "-", "\u00e4", "a\tb", "a\r"):
            self.error_of(1, "track " + name + " 4 saw 0 0", refusal(BadTrack, 0))
            self.error_of(4, "node " + name + " track t", refusal(BadNode, 0))
            self.error_of(4, "node a track " + name, refusal(UnknownTrack, name))
            self.error_of(7, "line a " + name, refusal(UnknownNode, name))
            self.error_of(7, "line " + name + " b", refusal(UnknownNode, name))

    def test_rows_and_gains_without_numbers(self):
        self.error_of(1, "track t 4 steps 0 0", refusal(BadInstrument, 3))
        self.error_of(5, "node b gain", refusal(BadPoint))

    def test_rows_and_gains_of_any_length(self):
        row = " ".join(["7"] * 64)
        self.assertEqual(parse_project(with_row(1, "track t 4 steps 0 0 " + row)).tracks[0][1][3], (7,) * 64)
        self.error_of(1, "track t 4 steps 0 0 7 " + row, refusal(BadInstrument, 3))
        points = " ".join("{} 5".format(tick) for tick in range(32))
        project = parse_project(with_row(5, "node b gain " + points))
        self.assertEqual(project.nodes[1], ("b", ("gain", tuple((tick, 5) for tick in range(32)))))
        self.error_of(5, "node b gain " + points + " 32 5", refusal(BadPoint))

    def test_clips_with_more_notes_than_they_may_have(self):
        notes = "\n".join(["note 0 1 1 1"] * 64)
        self.assertEqual(len(parse_project(with_row(3, notes)).events("t")), 64)
        self.error_of(3, notes + "\nnote 0 1 1 1", refusal(BadClip, 3))

    def test_kinds_without_any_line(self):
        self.assertEqual(refused(parse_project, "node out output"), refusal(BadTempo))
        self.assertEqual(refused(parse_project, "tempo 0 1 1"), refusal(OneOutput))
        self.assertEqual(refused(parse_project, "track t 1 saw 0 0"), refusal(BadTempo))
        self.assertEqual(refused(parse_project, "line a b"), refusal(BadTempo))
        rows = ["tempo 0 1 1", "track t 1 saw 0 0", "clip 0 1 1", "note 0 1 1 1"]
        for many in range(1, 5):
            for row in ("line a b", "node b bus\nline a b"):
                text = "\n".join(rows[:many] + [row])
                self.assertEqual(refused(parse_project, text), refusal(OneOutput))
        for many in (2, 3, 4):
            text = "\n".join(rows[1:many] + ["node o output", "line o o"])
            self.assertEqual(refused(parse_project, text), refusal(BadTempo))
        self.assertEqual(parse_project("tempo 0 1 1\nnode a bus\nnode out output\nline a out").tracks, [])

    def test_forms_come_ahead_of_the_project(self):
        self.assertEqual(refused(parse_project, "tempo 9 9 9\n" + EXAMPLE + "\nline"), refusal(BadLine, 11))
        self.assertEqual(refused(parse_project, with_row(0, "tempo 5 1 1") + "\n"), refusal(BadLine, 10))


if __name__ == "__main__":
    unittest.main()
