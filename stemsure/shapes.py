"""The shapes of affixes, entries and forbidden words, and of words that entries are to bear."""

from stemsure.values import is_ascending, is_integer, is_letters, is_sequence, word_order

MOST_AFFIXES = 6
MOST_ENTRIES = 8
MOST_FORBIDDEN = 5
MOST_BORNE = 10
LONGEST_STEM = 6
LONGEST_FORBIDDEN = 8


def is_affix(value):
    """Whether the value is an affix."""
    if not is_sequence(value) or len(value) != 6:
        return False
    side, flag, strip, add, ends, cross = value
    if side not in ("pre", "suf") or not is_integer(flag, 0, 7) or not isinstance(cross, bool):
        return False
    if not is_letters(strip, 0, 2) or not is_letters(add, 0, 2) or strip == add:
        return False
    return is_letters(ends, 0, 6) and is_ascending(ends)


def are_affixes(value):
    """Whether the value is a sequence of 0 to 6 different affixes."""
    if not is_sequence(value) or len(value) > MOST_AFFIXES:
        return False
    if not all([is_affix(affix) for affix in value]):
        return False
    # A list and a tuple of the same things are the same affix.
    affixes = [tuple(affix) for affix in value]
    return all([affix not in affixes[:at] for at, affix in enumerate(affixes)])


def is_entry(value):
    """Whether the value is an entry."""
    if not is_sequence(value) or len(value) != 2:
        return False
    stem, flags = value
    if not is_letters(stem, 1, LONGEST_STEM) or not is_sequence(flags):
        return False
    return all([is_integer(flag, 0, 9) for flag in flags]) and is_ascending(flags)


def are_entries(value):
    """Whether the value is a sequence of 0 to 8 entries, ascending by different stems."""
    if not is_sequence(value) or len(value) > MOST_ENTRIES:
        return False
    if not all([is_entry(entry) for entry in value]):
        return False
    return is_ascending([word_order(entry[0]) for entry in value])


def are_forbidden(value):
    """Whether the value is a sequence of 0 to 5 different words of at most 8 letters, ascending."""
    if not is_sequence(value) or len(value) > MOST_FORBIDDEN:
        return False
    if not all([is_letters(word, 1, LONGEST_FORBIDDEN) for word in value]):
        return False
    return is_ascending([word_order(word) for word in value])


def are_words(value):
    """Whether the value is a sequence of 1 to 10 different words of at most 6 letters, in any order."""
    if not is_sequence(value) or not 1 <= len(value) <= MOST_BORNE:
        return False
    if not all([is_letters(word, 1, LONGEST_STEM) for word in value]):
        return False
    return len(set(value)) == len(value)
