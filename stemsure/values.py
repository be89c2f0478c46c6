"""Kinds of values, the order of words, and the lines of a text."""

LETTERS = "abcdef"


def is_integer(value, least, most):
    """Whether the value is an integer from least to most; True and False are none."""
    return isinstance(value, int) and not isinstance(value, bool) and least <= value <= most


def is_sequence(value):
    """Whether the value is a list or a tuple."""
    return isinstance(value, (list, tuple))


def is_letters(value, least, most):
    """Whether the value is a string of least to most letters."""
    # The length is asked first, so that a very long string costs nothing.
    if not isinstance(value, str) or not least <= len(value) <= most:
        return False
    return all([sign in LETTERS for sign in value])


def is_ascending(keys):
    """Whether each key is greater than the one ahead of it."""
    return all([low < high for low, high in zip(keys, keys[1:])])


def word_order(word):
    """The key by which words are ordered: by length, then as Python orders strings."""
    return len(word), word


def plain(value):
    """The value with tuples in the place of lists, at every level."""
    if is_sequence(value):
        return tuple([plain(part) for part in value])
    return value


def lines_of(text):
    """The lines of the text: what stands ahead of each line feed, and behind the last one, if that is not empty."""
    lines = text.split("\n")
    if lines[-1] == "":
        lines.pop()
    return lines
