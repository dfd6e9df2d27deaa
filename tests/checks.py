"""What several tests ask: which error a call raises, and where a function of the interface stands."""

import inspect

from everyblock.errors import SoundError

# What is no integer, however it is nested.
NO_INTEGERS = (True, False, None, "", "1", "a", [], [1], (), (1,), ((0, 1), [2]))


def deep():
    """A tuple nested more deeply than Python can call."""
    value = ()
    for _ in range(100000):
        value = (value, [1])
    return value


def refused(function, *arguments):
    """The class, the word and the place of the error that a call raises; what it returns if it raises none."""
    try:
        return function(*arguments)
    except SoundError as error:
        return error.__class__, error.word, error.place


def refusal(kind, place=None):
    """What refused returns for an error of this kind."""
    return kind, kind.__name__, place


def with_item(row, index, value):
    """A copy of a tuple with another item."""
    return row[:index] + (value,) + row[index + 1:]


def stand_in(module, expected):
    """Tells whether the functions stand in this module and have these parameters, as text."""
    for name, parameters in expected.items():
        function = getattr(module, name)
        found = str(inspect.signature(function))
        if function.__module__ != module.__name__ or found != parameters:
            return name, function.__module__, found
    return True
