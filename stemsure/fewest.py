"""The fewest entries that bear just some words, and papers that show that fewer do not do."""

from stemsure.covers import full_ones, least_cover
from stemsure.errors import BadPaper, BadValue
from stemsure.papers import first_wrong_line, written_lines
from stemsure.shapes import are_affixes, are_words
from stemsure.values import is_integer, lines_of, plain, word_order

MOST_BOUND = 99


def checked(affixes, words):
    """The affixes, of plain tuples, and the words, ascending, that were passed as the first two arguments."""
    if not are_affixes(affixes):
        raise BadValue(0)
    if not are_words(words):
        raise BadValue(1)
    return plain(affixes), sorted(words, key=word_order)


def fewest(affixes, words):
    """The least number of entries with different stems that together bear just the words."""
    affixes, words = checked(affixes, words)
    return len(least_cover(words, full_ones(affixes, words)))


def few(affixes, words):
    """As many entries with different stems as fewest says, ascending, that together bear just the words."""
    affixes, words = checked(affixes, words)
    return tuple([(stem, flags) for stem, flags, _ in least_cover(words, full_ones(affixes, words))])


def full_entries(affixes, words):
    """The full entries, ascending by stem, then by flags."""
    affixes, words = checked(affixes, words)
    return tuple([(stem, flags) for stem, flags, _ in full_ones(affixes, words)])


def paper(affixes, words):
    """A paper that shows that fewer entries than fewest says do not bear just the words."""
    affixes, words = checked(affixes, words)
    full = full_ones(affixes, words)
    bound = len(least_cover(words, full))
    return "".join([line + "\n" for line in written_lines(len(words), full, bound)])


def paper_holds(affixes, words, bound, text):
    """True if the text is a paper that is right for the bound."""
    affixes, words = checked(affixes, words)
    if not is_integer(bound, 0, MOST_BOUND):
        raise BadValue(2)
    if not isinstance(text, str):
        raise BadPaper(0)
    at = first_wrong_line(lines_of(text), len(words), full_ones(affixes, words), bound)
    if at is not None:
        raise BadPaper(at)
    return True
