"""Points 1.1 and 1.2, and the interface of everyblock.numbers."""

import inspect
import unittest
from fractions import Fraction

from everyblock import numbers
from everyblock.numbers import cut, is_count, is_gain, is_name, is_sample, through

NO_INTEGERS = (True, False, None, "", "1", "a", [], [1], (), (1,), (0, 1, 1))
NO_STRINGS = (True, False, None, 0, 1, 97, -1, [], ["a"], (), ("a",), ("a", "b"))


class TestInterface(unittest.TestCase):
    def test_bounds(self):
        self.assertEqual(numbers.SAMPLE_LEAST, -8388608)
        self.assertEqual(numbers.SAMPLE_MOST, 8388607)
        self.assertEqual(numbers.GAIN_ONE, 65536)
        self.assertEqual(numbers.GAIN_MOST, 262144)
        self.assertEqual(numbers.NAME_MOST, 8)

    def test_functions_have_these_arguments_and_stand_in_this_file(self):
        expected = {
            "is_count": ["value", "least", "most"], "is_sample": ["value"], "is_gain": ["value"],
            "is_name": ["value"], "cut": ["number"], "through": ["sample", "gain"],
        }
        for name, parameters in expected.items():
            function = getattr(numbers, name)
            self.assertEqual(list(inspect.signature(function).parameters), parameters, name)
            self.assertEqual(function.__module__, "everyblock.numbers")

    def test_examples(self):
        self.assertEqual(cut(9000000), 8388607)
        self.assertEqual(through(-3, 32768), -1)


class TestIsCount(unittest.TestCase):
    def test_both_ends_count_and_one_beyond_does_not(self):
        for least, most in ((0, 5), (-3, 3), (1, 1), (0, 1), (-10 ** 30, 10 ** 30)):
            self.assertIs(is_count(least, least, most), True)
            self.assertIs(is_count(most, least, most), True)
            self.assertIs(is_count(least - 1, least, most), False)
            self.assertIs(is_count(most + 1, least, most), False)

    def test_what_lies_between_counts(self):
        self.assertEqual([n for n in range(-10, 10) if is_count(n, -2, 4)], [-2, -1, 0, 1, 2, 3, 4])

    def test_nothing_lies_in_an_empty_range(self):
        for number in (2, 3, 4):
            self.assertIs(is_count(number, 4, 2), False)

    def test_true_and_false_are_no_integers(self):
        self.assertIs(is_count(True, 0, 1), False)
        self.assertIs(is_count(False, 0, 1), False)
        self.assertIs(is_count(True, 1, 1), False)
        self.assertIs(is_count(False, 0, 0), False)

    def test_other_kinds_of_values(self):
        for value in NO_INTEGERS:
            self.assertIs(is_count(value, -100, 100), False, value)


class TestSamplesAndGains(unittest.TestCase):
    def test_samples(self):
        for value in (-8388608, -8388607, -1, 0, 1, 8388606, 8388607):
            self.assertIs(is_sample(value), True, value)
        for value in (-8388609, 8388608, -10 ** 40, 10 ** 40) + NO_INTEGERS:
            self.assertIs(is_sample(value), False, value)

    def test_gains(self):
        for value in (0, 1, 65535, 65536, 65537, 262143, 262144):
            self.assertIs(is_gain(value), True, value)
        for value in (-1, 262145, -65536, 10 ** 40) + NO_INTEGERS:
            self.assertIs(is_gain(value), False, value)


class TestNames(unittest.TestCase):
    def test_one_to_eight_letters(self):
        for length in range(1, 9):
            self.assertIs(is_name("z" * length), True, length)
        for length in (0, 9, 10, 1000):
            self.assertIs(is_name("a" * length), False, length)

    def test_every_letter_from_a_to_z(self):
        for letter in "abcdefghijklmnopqrstuvwxyz":
            self.assertIs(is_name(letter), True, letter)
            self.assertIs(is_name("m" + letter), True, letter)

    def test_no_other_sign_in_any_place(self):
        others = [chr(code) for code in range(0x180) if not 97 <= code <= 122]
        others += ["\u0430", "\uff41", "\U0001d41a", "\ud800", "\u200b"]
        for sign in others:
            for value in (sign, sign + "b", "b" + sign, "b" + sign + "b", "bbbbbbb" + sign):
                self.assertIs(is_name(value), False, ascii(value))

    def test_other_kinds_of_values(self):
        for value in NO_STRINGS:
            self.assertIs(is_name(value), False, value)


class TestCut(unittest.TestCase):
    def test_a_sample_stays(self):
        for number in (-8388608, -8388607, -1, 0, 1, 8388606, 8388607):
            self.assertEqual(cut(number), number)

    def test_what_lies_beyond_becomes_the_end(self):
        for number in (8388608, 8388609, 16777216, 10 ** 40):
            self.assertEqual(cut(number), 8388607)
        for number in (-8388609, -8388610, -16777216, -10 ** 40):
            self.assertEqual(cut(number), -8388608)


class TestThrough(unittest.TestCase):
    def test_gain_one_changes_nothing(self):
        for sample in (-8388608, -8388607, -2, -1, 0, 1, 2, 8388606, 8388607):
            self.assertEqual(through(sample, 65536), sample)

    def test_gain_0_gives_0(self):
        for sample in (-8388608, -1, 0, 1, 8388607):
            self.assertEqual(through(sample, 0), 0)

    def test_halves_go_up(self):
        halves = [through(sample, 32768) for sample in range(-5, 6)]
        self.assertEqual(halves, [-2, -2, -1, -1, 0, 0, 1, 1, 2, 2, 3])

    def test_just_beside_a_half(self):
        self.assertEqual([through(1, gain) for gain in (32767, 32768, 32769)], [0, 1, 1])
        self.assertEqual([through(-1, gain) for gain in (32767, 32768, 32769)], [0, 0, -1])

    def test_what_becomes_too_loud_is_cut(self):
        self.assertEqual(through(8388607, 262144), 8388607)
        self.assertEqual(through(-8388608, 262144), -8388608)
        self.assertEqual(through(8388607, 65537), 8388607)
        self.assertEqual(through(-8388608, 65537), -8388608)
        self.assertEqual(through(2097151, 262144), 8388604)
        self.assertEqual(through(2097152, 262144), 8388607)
        self.assertEqual(through(-2097152, 262144), -8388608)
        self.assertEqual(through(4194304, 131072), 8388607)
        self.assertEqual(through(-4194304, 131072), -8388608)

    def test_it_is_the_exact_product_rounded_once(self):
        samples = [-8388608, -8388607, -654321, -3, -1, 0, 1, 5, 32768, 123457, 8388606, 8388607]
        gains = [0, 1, 2, 32767, 32768, 32769, 54321, 65535, 65536, 65537, 100003, 262143, 262144]
        for sample in samples:
            for gain in gains:
                exact = Fraction(sample * gain, 65536) + Fraction(1, 2)
                nearest = exact.numerator // exact.denominator
                expected = sorted((-8388608, nearest, 8388607))[1]
                self.assertEqual(through(sample, gain), expected, (sample, gain))


if __name__ == "__main__":
    unittest.main()
