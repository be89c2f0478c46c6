"""Books: their forms, their words, and the ways to make a word."""

from stemsure.errors import BadValue, NoStem, TooMany
from stemsure.parts import parts_alone, parts_by_form, parts_to_join
from stemsure.shapes import are_affixes, are_entries, are_forbidden
from stemsure.values import is_letters, is_sequence, plain, word_order

LONGEST_SPELT = 40
LONGEST_TAKEN_APART = 12
MOST_WAYS = 2000


def is_book(value):
    """Whether the value is a book."""
    if not is_sequence(value) or len(value) != 3:
        return False
    affixes, entries, forbidden = value
    return are_affixes(affixes) and are_entries(entries) and are_forbidden(forbidden)


def book_at(value, at):
    """The book, of plain tuples, that was passed as the argument at this position."""
    if not is_book(value):
        raise BadValue(at)
    return plain(value)


def entry_with(entries, stem):
    """The entry with this stem, or None; what is passed as the stem may be any value."""
    for entry in entries:
        if entry[0] == stem:
            return entry
    return None


def forms(value, stem):
    """The different forms of the entry with this stem, ascending."""
    affixes, entries, _ = book_at(value, 0)
    entry = entry_with(entries, stem)
    if entry is None:
        raise NoStem(stem)
    return tuple(sorted(parts_by_form(affixes, [entry]), key=word_order))


def is_joined(word, joined):
    """Whether the word is two or more of the joined forms one after the other."""
    ends = [0]
    for end in range(1, len(word)):
        if any([word[start:end] in joined for start in ends]):
            ends.append(end)
    return any([word[start:] in joined for start in ends[1:]])


def is_spelt(book, word):
    """Whether the word is one of the book."""
    affixes, entries, forbidden = book
    if word in forbidden:
        return False
    return word in parts_alone(affixes, entries) or is_joined(word, parts_to_join(affixes, entries))


def spells(value, word):
    """Whether the word is one of the book that was passed."""
    book = book_at(value, 0)
    if not is_letters(word, 1, LONGEST_SPELT):
        raise BadValue(1)
    return is_spelt(book, word)


def rest_counts(word, joined):
    """For each place in the word, in how many ways what stands behind it is made of joined parts."""
    counts = [0] * len(word) + [1]
    for start in reversed(range(len(word))):
        counts[start] = sum([
            len(joined.get(word[start:end], ())) * counts[end]
            for end in range(start + 1, len(word) + 1)
        ])
    return counts


def joined_ways(word, joined, counts):
    """All ways to make the word of joined parts, one part or more."""
    made = [[()]]
    for end in range(1, len(word) + 1):
        # Where the rest cannot be made, no way is begun: so never more are kept than there are.
        longer = [
            way + (part,)
            for start in range(end)
            if counts[end] > 0
            for way in made[start]
            for part in joined.get(word[start:end], ())
        ]
        made.append(longer)
    return made[len(word)]


def ways(value, word):
    """All ways to make the word, ascending."""
    affixes, entries, forbidden = book_at(value, 0)
    if not is_letters(word, 1, LONGEST_TAKEN_APART):
        raise BadValue(1)
    if word in forbidden:
        return ()
    alone = parts_alone(affixes, entries).get(word, [])
    joined = parts_to_join(affixes, entries)
    counts = rest_counts(word, joined)
    if len(alone) + counts[0] - len(joined.get(word, ())) > MOST_WAYS:
        raise TooMany()
    several = [way for way in joined_ways(word, joined, counts) if len(way) > 1]
    return tuple(sorted([(part,) for part in alone] + several))
