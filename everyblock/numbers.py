"""Samples, gains and names, what is an integer at all, tuples of such values, and sums of samples."""

SAMPLE_LEAST = -8388608
SAMPLE_MOST = 8388607
GAIN_ONE = 65536
GAIN_MOST = 262144
NAME_MOST = 8


def is_integer(value):
    """Tells whether the value is an integer."""
    # Python counts True and False among the integers, the document does not.
    return isinstance(value, int) and not isinstance(value, bool)


def is_count(value, least, most):
    """Tells whether the value is an integer from least to most."""
    return is_integer(value) and least <= value <= most


def is_from_zero(value):
    """Tells whether the value is an integer from 0 on."""
    return is_integer(value) and value >= 0


def is_sample(value):
    """Tells whether the value is a sample."""
    return is_count(value, SAMPLE_LEAST, SAMPLE_MOST)


def is_gain(value):
    """Tells whether the value is a gain."""
    return is_count(value, 0, GAIN_MOST)


def is_name(value):
    """Tells whether the value is a string of 1 to 8 letters from a to z."""
    if not isinstance(value, str) or not 1 <= len(value) <= NAME_MOST:
        return False
    return all(["a" <= letter <= "z" for letter in value])


def is_tuple(value, least, most):
    """Tells whether the value is a tuple of least to most items."""
    return isinstance(value, tuple) and least <= len(value) <= most


def are_counts(value, ranges):
    """Tells whether the value is a tuple of as many integers as there are ranges, each one in its range."""
    if not is_tuple(value, len(ranges), len(ranges)):
        return False
    return all([is_count(number, least, most) for number, (least, most) in zip(value, ranges)])


def are_samples(value, least, most):
    """Tells whether the value is a tuple of least to most samples."""
    return is_tuple(value, least, most) and all([is_sample(item) for item in value])


def cut(number):
    """Returns the sample that is nearest to the number."""
    return max(SAMPLE_LEAST, min(number, SAMPLE_MOST))


def through(sample, gain):
    """Returns the sample through the gain; halves are rounded up."""
    return cut((sample * gain + GAIN_ONE // 2) // GAIN_ONE)


def added(rows, count):
    """Returns the cut sums, frame by frame, of rows of samples, each of that many frames; zeros if there is no row."""
    sums = [0] * count
    for row in rows:
        sums = [total + sample for total, sample in zip(sums, row)]
    # Cut only once, behind the last row: a sum may leave the samples and come back.
    return [cut(total) for total in sums]
