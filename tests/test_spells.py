"""[18], [19]: the words of a book."""

import unittest

from stemsure.books import spells
from stemsure.errors import BadValue
from tests import reference
from tests.samples import ADDING, EMPTY, FULL, LARGEST, ONE, odd_values


def book(*entries, affixes=(), forbidden=()):
    return (affixes, entries, forbidden)


class TestSpells(unittest.TestCase):
    def words_are(self, value, right, wrong):
        for word in right:
            self.assertIs(spells(value, word), True, word)
        for word in wrong:
            self.assertIs(spells(value, word), False, word)

    def test_example(self):
        self.words_are(ONE, ("ab", "abd", "cab", "abab", "abdab"), ("a", "cabab", "abcab", "cabd", "abdd", "d"))

    def test_without_flags(self):
        self.words_are(book(("a", ()), ("bc", ())), ("a", "bc"), ("b", "aa", "abc", "bca", "c"))

    def test_flag_8(self):
        value = book(("a", (8,)), ("b", ()), ("cd", (8,)))
        self.words_are(value, ("a", "b", "aa", "acd", "cda", "cd", "cdcdacd", "a" * 40), ("ab", "ba", "c", "acb", "ad"))

    def test_flag_9(self):
        self.words_are(book(("a", (9,)), ("b", ())), ("b",), ("a", "aa", "ab", "ba"))

    def test_flags_8_and_9(self):
        value = book(("a", (8, 9)), ("b", (8,)), ("c", (9,)), ("d", ()))
        self.words_are(value, ("b", "aa", "ab", "ba", "bb", "aaa", "d"), ("a", "c", "ac", "ad", "db", "bd"))

    def test_an_only_joined_form_may_be_made_otherwise(self):
        value = book(("b", (8, 9)), ("bb", (8, 9)), ("bbb", ()))
        self.words_are(value, ("bb", "bbb", "bbbb"), ("b",))
        # The form of one entry is only joined, the same form of another one is a word.
        adding = ("suf", 0, "", "a", "", True)
        self.words_are(book(("b", (0, 9)), ("ba", ()), affixes=(adding,)), ("ba",), ("b", "baba"))

    def test_all_forms_are_joined(self):
        value = book(("ab", (0, 8, 9)), affixes=(ADDING, ("pre", 0, "a", "", "", False)))
        self.words_are(value, ("bb", "abb", "abdb", "babd", "abdabd"), ("ab", "b", "abd", "bd", "bdb"))

    def test_joined_words_of_40_letters(self):
        value = book(("b", (8,)), ("bbc", (8, 9)), ("aaaaa", (8,)))
        long_ones = ("aaaaa" * 8, "b" * 40, "aaaaab" * 6 + "bbcb", "bbc" * 13 + "b")
        self.words_are(value, long_ones, ("a" * 39, "aaaaa" * 7 + "aaaab", "bbc" * 13 + "c", "c" + "b" * 39))
        # The last one is five times the stem aaaaab with an a before it, and with aa for the b behind it.
        self.words_are(LARGEST, ("bbbab" * 8, "abbbba" * 5 + "bbbab" * 2, "a" * 40), ("abababab" * 5, "b" * 39 + "c"))

    def test_forbidden(self):
        value = book(("a", (8,)), ("bb", (8,)), forbidden=("a", "aa", "abb"))
        self.words_are(value, ("bb", "aaa", "aaaa", "bba", "aabb", "abbabb"), ("a", "aa", "abb", "b"))
        self.words_are(book(("a", ()), forbidden=("a",)), (), ("a", "aa"))
        self.words_are(book(("a", ()), forbidden=("b",)), ("a",), ("b",))

    def test_empty_book(self):
        self.words_are(EMPTY, (), ("a", "abcdef", "f" * 40))

    def test_against_the_reference(self):
        for value in reference.drawn_books(4, 150):
            right = reference.words(value, 8)
            for word in reference.texts("ab", 8):
                self.assertIs(spells(value, word), word in right)

    def test_full_book_against_the_reference(self):
        right = reference.words(FULL, 12)
        for word in sorted(right)[::29]:
            self.assertIs(spells(FULL, word), True)
            for other in (word[1:], word[:-1] + "a", "f" + word):
                if 0 < len(other) <= 12:
                    self.assertIs(spells(FULL, other), other in right)

    def test_by_name(self):
        self.assertIs(spells(word="abd", value=ONE), True)


class TestBadWords(unittest.TestCase):
    def test_bad_words(self):
        wrong = ["", "a" * 41, "ab" * 21, "g", "Ab", "ab ", " ab", "ab\n", "a-b", ["ab"], ("a", "b"), 0, 1, b"ab"]
        for value in (ONE, EMPTY, FULL):
            for word in wrong + odd_values():
                if reference.is_text(word, 1, 40):
                    continue
                with self.assertRaises(BadValue) as held:
                    spells(value, word)
                self.assertEqual(held.exception.at, 1)

    def test_40_letters_and_41(self):
        value = book(("f", (8,)))
        self.assertIs(spells(value, "f" * 40), True)
        with self.assertRaises(BadValue) as held:
            spells(value, "f" * 41)
        self.assertEqual(held.exception.at, 1)
