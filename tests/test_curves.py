"""Points 1.9, 1.10 and 1.11, and the interface of everyblock.curves."""

import copy
import random
import unittest

from checks import NO_INTEGERS, deep, refusal, refused, stand_in, with_item
from told import told_value

from everyblock import curves
from everyblock.curves import check_points, in_frames, value_at
from everyblock.errors import BadPoint


def ascending(many):
    return tuple((tick, 65536) for tick in range(many))


class TestInterface(unittest.TestCase):
    def test_functions_stand_in_this_file(self):
        self.assertIs(stand_in(curves, {
            "check_points": "(points)", "in_frames": "(tempo, points)", "value_at": "(points, frame)",
        }), True)

    def test_example(self):
        self.assertEqual([value_at([(2, 10), (5, 0)], frame) for frame in range(7)], [10, 10, 10, 6, 3, 0, 0])

    def test_arguments_are_not_modified_and_lists_are_new(self):
        tempo = [(0, 5, 2), (3, 1, 3)]
        points = ((1, 5), (7, 9))
        in_frame = [(2, 5), (8, 9)]
        before = copy.deepcopy((tempo, points, in_frame))
        check_points(points)
        value_at(in_frame, 4)
        found = in_frames(tempo, points)
        self.assertEqual(found, in_frame)
        found.clear()
        self.assertEqual(in_frames(tempo, points), in_frame)
        self.assertEqual((tempo, points, in_frame), before)


class TestCheck(unittest.TestCase):
    def test_one_to_32_points(self):
        for many in range(1, 33):
            self.assertIsNone(check_points(ascending(many)))
        for many in (0, 33, 34, 1000):
            self.assertEqual(refused(check_points, ascending(many)), refusal(BadPoint))

    def test_what_is_no_tuple(self):
        for points in (None, True, False, 0, 1, "", "a", "ab", [], [(0, 0)], list(ascending(3))):
            self.assertEqual(refused(check_points, points), refusal(BadPoint), points)

    def test_the_number_of_points_comes_before_the_points(self):
        self.assertEqual(refused(check_points, (None,) * 33), refusal(BadPoint))
        self.assertEqual(refused(check_points, (None,) * 32), refusal(BadPoint, 0))

    def test_the_ends_of_the_ranges(self):
        for tick in (0, 1, 999999, 1000000):
            self.assertIsNone(check_points(((tick, 0),)))
        for value in (0, 1, 262143, 262144):
            self.assertIsNone(check_points(((5, value),)))
        self.assertIsNone(check_points(((0, 262144), (1000000, 0))))
        self.assertIsNone(check_points(((999999, 262144), (1000000, 0))))

    def test_one_beyond_the_ranges(self):
        for tick in (-1, 1000001, -10 ** 30, 10 ** 30):
            self.assertEqual(refused(check_points, ((tick, 0),)), refusal(BadPoint, 0))
            self.assertEqual(refused(check_points, ((5, 0), (tick, 0))), refusal(BadPoint, 1))
        for value in (-1, 262145, -10 ** 30, 10 ** 30):
            self.assertEqual(refused(check_points, ((5, value),)), refusal(BadPoint, 0))
            self.assertEqual(refused(check_points, ((5, 0), (6, value))), refusal(BadPoint, 1))

    def test_ticks_ascend_strictly(self):
        self.assertEqual(refused(check_points, ((0, 1), (0, 1))), refusal(BadPoint, 1))
        self.assertEqual(refused(check_points, ((5, 1), (5, 2))), refusal(BadPoint, 1))
        self.assertEqual(refused(check_points, ((5, 1), (4, 1))), refusal(BadPoint, 1))
        self.assertEqual(refused(check_points, ((5, 1), (9, 1), (6, 1))), refusal(BadPoint, 2))
        self.assertEqual(refused(check_points, ((5, 1), (9, 1), (0, 1))), refusal(BadPoint, 2))
        self.assertEqual(refused(check_points, ((1000000, 1), (1000000, 1))), refusal(BadPoint, 1))
        self.assertEqual(refused(check_points, ((1000000, 1), (1000001, 1))), refusal(BadPoint, 1))
        self.assertIsNone(check_points(((5, 1), (6, 1), (7, 1))))

    def test_other_kinds_of_values_in_each_item(self):
        for value in NO_INTEGERS + (deep(),):
            for index in range(2):
                self.assertEqual(refused(check_points, (with_item((5, 6), index, value),)), refusal(BadPoint, 0))
                self.assertEqual(refused(check_points, ((0, 0), with_item((5, 6), index, value))), refusal(BadPoint, 1))

    def test_what_is_no_tuple_of_two(self):
        for point in ((), (5,), (5, 6, 7), [5, 6], [], None, True, False, 0, 5, "", "ab", ((5, 6),), ((5,), (6,)),
                      deep()):
            self.assertEqual(refused(check_points, (point,)), refusal(BadPoint, 0))
            self.assertEqual(refused(check_points, ((0, 0), point, (9, 9))), refusal(BadPoint, 1))

    def test_two_numbers_are_no_points(self):
        self.assertEqual(refused(check_points, (5, 6)), refusal(BadPoint, 0))

    def test_the_first_bad_point_is_told(self):
        for place in range(32):
            points = ascending(32)[:place] + (None,) * (32 - place)
            self.assertEqual(refused(check_points, points), refusal(BadPoint, place))
        self.assertEqual(refused(check_points, ((0, 0), (2, 0), (1, 0), (3, -1), (2, 0))), refusal(BadPoint, 2))


class TestInFrames(unittest.TestCase):
    def test_ticks_become_frames(self):
        self.assertEqual(in_frames([(0, 5, 2), (3, 1, 3)], ((0, 7), (1, 8), (2, 9), (7, 0))),
                         [(0, 7), (2, 8), (5, 9), (8, 0)])

    def test_several_points_may_have_the_same_frame(self):
        self.assertEqual(in_frames([(0, 1, 3)], tuple((tick, tick * 10) for tick in range(7))),
                         [(0, 0), (0, 10), (0, 20), (1, 30), (1, 40), (1, 50), (2, 60)])

    def test_one_point_and_32_points(self):
        self.assertEqual(in_frames([(0, 1000, 1)], ((1000000, 262144),)), [(10 ** 9, 262144)])
        self.assertEqual(in_frames([(0, 2, 1)], ascending(32)), [(2 * tick, 65536) for tick in range(32)])


class TestValue(unittest.TestCase):
    def test_before_the_first_point_and_behind_the_last_one(self):
        points = [(10, 5), (20, 9)]
        for frame in (0, 1, 9, 10):
            self.assertEqual(value_at(points, frame), 5)
        for frame in (20, 21, 1000, 10 ** 40):
            self.assertEqual(value_at(points, frame), 9)

    def test_one_point(self):
        for frame in (0, 6, 7, 8, 10 ** 30):
            self.assertEqual(value_at([(7, 3)], frame), 3)

    def test_quotients_are_rounded_down_where_it_rises(self):
        self.assertEqual([value_at([(0, 0), (3, 5)], frame) for frame in range(5)], [0, 1, 3, 5, 5])

    def test_quotients_are_rounded_down_where_it_falls(self):
        self.assertEqual([value_at([(0, 5), (3, 0)], frame) for frame in range(5)], [5, 3, 1, 0, 0])
        self.assertEqual([value_at([(0, 1), (4, 0)], frame) for frame in range(6)], [1, 0, 0, 0, 0, 0])

    def test_of_several_points_at_a_frame_the_last_one(self):
        points = [(4, 100), (4, 50), (4, 10), (6, 20)]
        self.assertEqual([value_at(points, frame) for frame in range(8)], [100, 100, 100, 100, 10, 15, 20, 20])

    def test_a_curve_that_jumps_at_its_end(self):
        points = [(0, 0), (4, 8), (4, 100)]
        self.assertEqual([value_at(points, frame) for frame in range(7)], [0, 2, 4, 6, 100, 100, 100])
        self.assertEqual([value_at([(2, 7), (2, 1)], frame) for frame in range(4)], [7, 7, 1, 1])

    def test_the_points_may_stand_in_a_tuple(self):
        self.assertEqual([value_at(((2, 10), (5, 0)), frame) for frame in range(7)], [10, 10, 10, 6, 3, 0, 0])

    def test_huge_frames_stay_exact(self):
        points = [(10 ** 30, 0), (10 ** 30 + 3, 262144)]
        self.assertEqual([value_at(points, 10 ** 30 + at) for at in (-1, 0, 1, 2, 3)], [0, 0, 87381, 174762, 262144])

    def test_random_curves(self):
        rng = random.Random(23)
        for _ in range(200):
            frames = sorted(rng.choices(range(40), k=rng.randint(1, 12)))
            points = [(frame, rng.randint(0, rng.choice((9, 262144)))) for frame in frames]
            for frame in range(45):
                self.assertEqual(value_at(points, frame), told_value(points, frame), (points, frame))


if __name__ == "__main__":
    unittest.main()
