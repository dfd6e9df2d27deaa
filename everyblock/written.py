"""Projects as text: written line by line, and read again."""

from everyblock.errors import BadLine
from everyblock.project import Project

DIGITS_MOST = 9
# The first words of lines, each with the first words that a line right before it may have; "" is no line at all.
BEFORE = {
    "tempo": ("", "tempo"),
    "track": ("", "tempo", "track", "clip", "note"),
    "clip": ("track", "clip", "note"),
    "note": ("clip", "note"),
    "node": ("", "tempo", "track", "clip", "note", "node"),
    "line": ("", "tempo", "track", "clip", "note", "node", "line"),
}
# How many numbers follow behind the first word of a line, of an instrument, or of what a node is.
LINE_NUMBERS = {"tempo": 3, "clip": 3, "note": 4}
INSTRUMENT_NUMBERS = {"saw": 2, "square": 2}
NODE_NUMBERS = {"bus": 0, "output": 0, "pass": 0, "smooth": 1, "ahead": 2, "delay": 3}


def format_project(project):
    """Returns the text that writes a project."""
    rows = [("tempo", entry) for entry in project.tempo]
    for name, instrument, voices, clips in project.tracks:
        rows.append(("track", name, voices, instrument))
        for clip in clips:
            rows.append(("clip", clip[:3]))
            rows.extend([("note", note) for note in clip[3]])
    rows.extend([("node", node) for node in project.nodes])
    rows.extend([("line", line) for line in project.lines])
    return "\n".join([" ".join(words_of(row)) for row in rows])


def words_of(items):
    """Returns the words of all items, those within tuples in place of the tuples."""
    words = []
    for item in items:
        if isinstance(item, tuple):
            words.extend(words_of(item))
        else:
            words.append(str(item))
    return words


def parse_project(text):
    """Returns the project that a text writes; raises BadLine for the first line that does not have its form."""
    rows = [line.split(" ") for line in text.split("\n")]
    check_rows(rows)
    tempo = [numbers_of(words[1:]) for words in rows if words[0] == "tempo"]
    nodes = [(words[1], what_of(words[2:])) for words in rows if words[0] == "node"]
    lines = [(words[1], words[2]) for words in rows if words[0] == "line"]
    return Project(tempo, tracks_of(rows), nodes, lines)


def check_rows(rows):
    """Returns None, or raises BadLine for the first line that does not have its form."""
    before = ""
    for index, words in enumerate(rows):
        word = words[0]
        if before not in BEFORE.get(word, ()) or not has_form(words):
            raise BadLine(index)
        before = word


def has_form(words):
    """Tells whether these are the words of a line, wherever it stands."""
    word = words[0]
    if word == "track":
        return len(words) > 3 and is_number(words[2]) and is_instrument(words[3:])
    if word == "node":
        return len(words) > 2 and is_what(words[2:])
    if word == "line":
        return len(words) == 3
    return are_numbers(words[1:], LINE_NUMBERS.get(word))


def is_instrument(words):
    """Tells whether these are the words of an instrument."""
    numbers = words[1:]
    if words[0] == "steps":
        return len(numbers) >= 2 and are_numbers(numbers, len(numbers))
    return are_numbers(numbers, INSTRUMENT_NUMBERS.get(words[0]))


def is_what(words):
    """Tells whether these are the words of what a node is."""
    rest = words[1:]
    if words[0] == "track":
        return len(rest) == 1
    if words[0] == "gain":
        return len(rest) % 2 == 0 and are_numbers(rest, len(rest))
    return are_numbers(rest, NODE_NUMBERS.get(words[0]))


def are_numbers(words, many):
    """Tells whether these are that many numbers; many is None where a word is none of those that may stand there."""
    return len(words) == many and all([is_number(word) for word in words])


def is_number(word):
    """Tells whether this is a number as it is written: no needless sign, no leading zeros, not too long."""
    digits = word[1:] if word.startswith("-") else word
    if not 1 <= len(digits) <= DIGITS_MOST or not all(["0" <= digit <= "9" for digit in digits]):
        return False
    return digits[0] != "0" or word == "0"


def numbers_of(words):
    """Returns the tuple of the numbers that these words write."""
    return tuple([int(word) for word in words])


def tracks_of(rows):
    """Returns the tracks that the lines write."""
    tracks = []
    clips = []
    notes = []
    # From the last line back to the first one, each clip finds its notes and each track its clips complete.
    for words in rows[::-1]:
        if words[0] == "note":
            notes.append(numbers_of(words[1:]))
        elif words[0] == "clip":
            clips.append(numbers_of(words[1:]) + (tuple(notes[::-1]),))
            notes = []
        elif words[0] == "track":
            tracks.append((words[1], instrument_of(words[3:]), int(words[2]), tuple(clips[::-1])))
            clips = []
    return tracks[::-1]


def instrument_of(words):
    """Returns the instrument that these words write."""
    numbers = numbers_of(words[1:])
    if words[0] == "steps":
        return (words[0], numbers[0], numbers[1], numbers[2:])
    return (words[0],) + numbers


def what_of(words):
    """Returns what a node is by these words."""
    if words[0] == "track":
        return (words[0], words[1])
    numbers = numbers_of(words[1:])
    if words[0] == "gain":
        return (words[0], tuple(zip(numbers[::2], numbers[1::2])))
    return (words[0],) + numbers
