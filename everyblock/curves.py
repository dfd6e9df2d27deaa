"""Curves: points of musical time with values, and the values between them."""

from everyblock.errors import BadPoint
from everyblock.numbers import GAIN_MOST, are_counts, is_tuple
from everyblock.tempo import TICK_MOST, frame_of

POINTS_MOST = 32


def check_points(points):
    """Returns None, or raises BadPoint for the first thing that is wrong."""
    if not is_tuple(points, 1, POINTS_MOST):
        raise BadPoint()
    tick_least = 0
    for index, point in enumerate(points):
        if not are_counts(point, ((tick_least, TICK_MOST), (0, GAIN_MOST))):
            raise BadPoint(index)
        tick_least = point[0] + 1


def in_frames(tempo, points):
    """Returns the list of the points with the frames of their ticks in place of the ticks."""
    return [(frame_of(tempo, tick), value) for tick, value in points]


def value_at(points, frame):
    """Returns the value at a frame of a curve whose points are in frames."""
    passed = len([at for at, _ in points if at <= frame])
    if passed == 0:
        return points[0][1]
    begin, value = points[passed - 1]
    if passed == len(points):
        return value
    # The next point lies behind this frame, so it is never at the frame at which this stretch begins.
    end, goal = points[passed]
    return value + (goal - value) * (frame - begin) // (end - begin)
