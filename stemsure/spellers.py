"""Spellers: they keep a book that learns and forgets."""

from stemsure.books import LONGEST_SPELT, book_at, entry_with, is_spelt
from stemsure.errors import BadValue, NoStem, TakenStem, TooMany
from stemsure.nearby import check_search, words_near
from stemsure.shapes import LONGEST_FORBIDDEN, LONGEST_STEM, MOST_ENTRIES, MOST_FORBIDDEN
from stemsure.values import is_letters, word_order


def entry_order(entry):
    """The key by which entries are ordered."""
    return word_order(entry[0])


def with_entry(entries, entry):
    """The entries with one more in its place."""
    return tuple(sorted(entries + (entry,), key=entry_order))


def without(things, one):
    """The things but for one of them."""
    return tuple([thing for thing in things if thing != one])


class Speller:
    """Keeps a book, of plain tuples, and answers from it."""

    def __init__(self, value):
        self.book = book_at(value, 0)

    def __eq__(self, other):
        return isinstance(other, Speller) and self.book == other.book

    def whole(self):
        """The book."""
        return self.book

    def spells(self, word):
        """Whether the word is one of the book."""
        if not is_letters(word, 1, LONGEST_SPELT):
            raise BadValue(0)
        return is_spelt(self.book, word)

    def near(self, text, most, limit):
        """The pairs (distance, word) of the words of the book near the text, the nearest first."""
        check_search(text, most, limit, 0)
        return words_near(self.book, text, most, limit)

    def copy(self):
        """A speller that is the same and changes independently."""
        return Speller(self.book)

    def learn(self, word, like):
        """Adds an entry with this stem and the flags of the stem like; without flags if that is None."""
        affixes, entries, forbidden = self.book
        if not is_letters(word, 1, LONGEST_STEM):
            raise BadValue(0)
        if entry_with(entries, word) is not None:
            raise TakenStem(word)
        model = (word, ()) if like is None else entry_with(entries, like)
        if model is None:
            raise NoStem(like)
        if len(entries) >= MOST_ENTRIES:
            raise TooMany()
        self.book = (affixes, with_entry(entries, (word, model[1])), without(forbidden, word))

    def forget(self, word):
        """Takes the entry with this stem away."""
        affixes, entries, forbidden = self.book
        entry = entry_with(entries, word)
        if entry is None:
            raise NoStem(word)
        self.book = (affixes, without(entries, entry), forbidden)

    def forbid(self, word):
        """Makes the word forbidden, if it is not."""
        affixes, entries, forbidden = self.book
        if not is_letters(word, 1, LONGEST_FORBIDDEN):
            raise BadValue(0)
        if word in forbidden:
            return
        if len(forbidden) >= MOST_FORBIDDEN:
            raise TooMany()
        self.book = (affixes, entries, tuple(sorted(forbidden + (word,), key=word_order)))

    def allow(self, word):
        """Makes the word not forbidden."""
        affixes, entries, forbidden = self.book
        if word not in forbidden:
            raise BadValue(0)
        self.book = (affixes, entries, without(forbidden, word))
