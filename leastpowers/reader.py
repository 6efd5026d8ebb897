"""Reads tables and systems from texts."""

from leastpowers.errors import NoText, Wrong

MOST_DIGITS = 40
MOST_MEMBERS = 100


def read_table(text):
    """The table that a text shows."""
    many, lines = read_head(text, "unknowns")
    return (many, tuple([read_row(many, line, words) for line, words in lines]))


def read_system(text):
    """The system that a text shows."""
    many, lines = read_head(text, "events")
    return (many, tuple([read_wait(many, line, words) for line, words in lines]))


def read_head(text, name):
    """The number in the first line with words, and the tuples (line, words) of those behind it."""
    if not isinstance(text, str):
        raise Wrong(0)
    contents = text.split("\n")
    lines = [(line, words_of(content.partition("#")[0])) for line, content in enumerate(contents)]
    worded = [(line, words) for line, words in lines if words]
    if not worded:
        raise NoText(len(contents))
    line, words = worded[0]
    if len(words) != 2 or words[0] != name:
        raise NoText(line)
    many = read_size(line, words[1])
    if many > MOST_MEMBERS:
        raise NoText(line)
    return (many, worded[1:])


def words_of(content):
    """The words of a line, between which there are blanks, and nothing else that is white."""
    return [word for word in content.split(" ") if word != ""]


def read_row(many, line, words):
    """The row that words show."""
    if len(words) < 3 or words[0] != "row" or words[-2] != "=":
        raise NoText(line)
    sides = tuple([read_side(many, line, word) for word in words[1:-2]])
    return (sides, None if words[-1] == "nothing" else read_bounds(line, words[-1]))


def read_side(many, line, word):
    """The side that a word shows."""
    unknown, _, bounds = word.partition(":")
    least, greatest = read_bounds(line, bounds)
    return (read_member(many, line, unknown), least, greatest)


def read_bounds(line, word):
    """The bounds that a word shows."""
    low, dots, high = word.partition("..")
    least = read_integer(line, low)
    if dots == "":
        return (least, least)
    if high == "none":
        return (least, None)
    greatest = read_integer(line, high)
    if greatest < least:
        raise NoText(line)
    return (least, greatest)


def read_wait(many, line, words):
    """The wait that words show."""
    if len(words) < 2 or words[0] != "wait":
        raise NoText(line)
    event = read_member(many, line, words[1])
    options = sorted([read_option(many, line, word) for word in words[2:]])
    for option, following in zip(options, options[1:]):
        if option[0] == following[0]:
            raise NoText(line)
    return (event, tuple(options))


def read_option(many, line, word):
    """The option that a word shows."""
    sign = "+" if "+" in word else "-"
    other, _, size = word.partition(sign)
    delay = read_size(line, size)
    if sign == "-":
        if delay == 0:
            raise NoText(line)
        delay = -delay
    return (read_member(many, line, other), delay)


def read_member(many, line, word):
    """The unknown, or the event, that a word shows."""
    member = read_size(line, word)
    if member >= many:
        raise NoText(line)
    return member


def read_integer(line, word):
    """The integer that a word shows as Python does."""
    if not word.startswith("-"):
        return read_size(line, word)
    size = read_size(line, word[1:])
    if size == 0:
        raise NoText(line)
    return -size


def read_size(line, word):
    """The integer from 0 on that a word shows as Python does."""
    if not word.isascii() or not word.isdigit() or len(word) > MOST_DIGITS:
        raise NoText(line)
    if word.startswith("0") and word != "0":
        raise NoText(line)
    return int(word)
