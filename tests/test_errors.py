"""The interface of everyblock.errors."""

import inspect
import unittest

from everyblock import errors

WORDS = (
    "BadTempo", "BadNote", "BadClip", "BadPoint", "BadLine", "DuplicateNode", "UnknownNode", "BadLineEnd",
    "DuplicateLine", "OneOutput", "Ring", "BadInstrument", "BadVoices", "BadFrame", "BadEffect", "BadState",
    "BadTrack", "DuplicateTrack", "UnknownTrack", "BadNode", "BadEdit", "NothingToUndo", "NothingToRedo", "BadCount",
)
KINDS = [getattr(errors, word) for word in WORDS]
PLACES = (None, 0, 7, "out", ("ahead", 0, [None, True]), [], ())


def deep(times):
    value = ()
    for _ in range(times):
        value = (value,)
    return value


class TestKinds(unittest.TestCase):
    def test_there_are_24_and_no_others(self):
        self.assertEqual(len(set(WORDS)), 24)
        classes = {name for name, _ in inspect.getmembers(errors, inspect.isclass)}
        self.assertEqual(classes, set(WORDS) | {"SoundError"})

    def test_each_stands_directly_under_the_base(self):
        for kind in KINDS:
            self.assertEqual(kind.__bases__, (errors.SoundError,), kind)

    def test_each_is_defined_in_its_file_under_its_name(self):
        for word, kind in zip(WORDS, KINDS):
            self.assertEqual((kind.__module__, kind.__name__), ("everyblock.errors", word))

    def test_word_is_the_name_of_the_class(self):
        for word, kind in zip(WORDS, KINDS):
            for place in PLACES:
                self.assertEqual(kind(place).word, word)

    def test_place_is_what_was_passed(self):
        for kind in KINDS:
            for place in PLACES:
                self.assertIs(kind(place).place, place)
                self.assertIs(kind(place=place).place, place)

    def test_place_is_none_if_nothing_was_passed(self):
        for kind in KINDS:
            self.assertIsNone(kind().place)

    def test_none_takes_more_than_a_place(self):
        for kind in KINDS:
            with self.assertRaises(TypeError):
                kind("BadTempo", 1)

    def test_an_error_of_one_kind_is_of_no_other_kind(self):
        for kind in KINDS:
            error = kind(3)
            self.assertEqual([other for other in KINDS if isinstance(error, other)], [kind])

    def test_each_is_caught_as_the_base_and_as_value_error(self):
        for kind in KINDS:
            for caught in (kind, errors.SoundError, ValueError):
                with self.assertRaises(caught) as context:
                    raise kind(5)
                self.assertEqual(context.exception.place, 5)

    def test_a_place_may_be_nested_deeply(self):
        place = deep(100000)
        error = errors.BadEffect(place)
        self.assertIs(error.place, place)
        self.assertIsInstance(str(error), str)

    def test_a_place_may_be_a_huge_number(self):
        place = 10 ** 6000
        error = errors.BadEffect(place)
        self.assertEqual(error.place, place)
        self.assertIsInstance(str(error), str)


class TestBase(unittest.TestCase):
    def test_it_is_a_value_error(self):
        self.assertEqual(errors.SoundError.__bases__, (ValueError,))
        self.assertEqual(errors.SoundError.__module__, "everyblock.errors")

    def test_it_keeps_word_and_place(self):
        error = errors.SoundError("Word", 4)
        self.assertEqual((error.word, error.place), ("Word", 4))
        error = errors.SoundError(word="Word", place="t")
        self.assertEqual((error.word, error.place), ("Word", "t"))

    def test_its_place_is_none_if_nothing_was_passed(self):
        error = errors.SoundError("Word")
        self.assertEqual((error.word, error.place), ("Word", None))

    def test_it_needs_a_word(self):
        with self.assertRaises(TypeError):
            errors.SoundError()

    def test_it_is_none_of_the_kinds(self):
        error = errors.SoundError("BadTempo", 1)
        self.assertEqual([kind for kind in KINDS if isinstance(error, kind)], [])


if __name__ == "__main__":
    unittest.main()
