"""[22], [23]: the least machine of a book."""

import unittest

from stemsure.machines import machine
from tests import reference
from tests.samples import EMPTY, FULL, LARGEST, ONE

NONE = (1, (), ())


def book(*entries, affixes=(), forbidden=()):
    return (affixes, entries, forbidden)


class TestByHand(unittest.TestCase):
    def test_one_word(self):
        self.assertEqual(machine(book(("a", ()))), (2, (1,), ((0, "a", 1),)))
        self.assertEqual(machine(book(("abf", ()))), (4, (3,), ((0, "a", 1), (1, "b", 2), (2, "f", 3))))

    def test_words_within_words(self):
        value = book(("a", ()), ("b", ()), ("ab", ()))
        self.assertEqual(machine(value), (3, (1, 2), ((0, "a", 1), (0, "b", 2), (1, "b", 2))))

    def test_fewest_states(self):
        value = book(("ab", ()), ("cb", ()), ("bdb", ()), ("bfb", ()))
        moves = ((0, "a", 1), (0, "b", 2), (0, "c", 1), (1, "b", 3), (2, "d", 1), (2, "f", 1))
        self.assertEqual(machine(value), (4, (3,), moves))

    def test_numbers_go_by_the_least_word(self):
        value = book(("c", ()), ("ba", ()))
        self.assertEqual(machine(value), (3, (2,), ((0, "b", 1), (0, "c", 2), (1, "a", 2))))
        value = book(("f", ()), ("ab", ()), ("ed", ()), ("abc", ()))
        moves = ((0, "a", 1), (0, "e", 2), (0, "f", 3), (1, "b", 4), (2, "d", 3), (4, "c", 3))
        self.assertEqual(machine(value), (5, (3, 4), moves))

    def test_joined(self):
        self.assertEqual(machine(book(("a", (8,)))), (2, (1,), ((0, "a", 1), (1, "a", 1))))
        self.assertEqual(machine(book(("a", (8, 9)))), (3, (2,), ((0, "a", 1), (1, "a", 2), (2, "a", 2))))
        moves = ((0, "a", 1), (1, "b", 2), (2, "a", 1))
        self.assertEqual(machine(book(("ab", (8,)))), (3, (2,), moves))

    def test_joined_and_not(self):
        value = book(("a", (8,)), ("b", ()))
        self.assertEqual(machine(value), (3, (1, 2), ((0, "a", 1), (0, "b", 2), (1, "a", 1))))

    def test_joined_with_lengths_that_lack(self):
        value = book(("aa", (8,)), ("aaaaa", (8,)))
        moves = ((0, "a", 1), (1, "a", 2), (2, "a", 3), (3, "a", 4), (4, "a", 4))
        self.assertEqual(machine(value), (5, (2, 4), moves))

    def test_forbidden(self):
        moves = ((0, "a", 1), (1, "a", 2), (2, "a", 3), (3, "a", 3))
        self.assertEqual(machine(book(("a", (8,)), forbidden=("aa",))), (4, (1, 3), moves))
        moves = ((0, "a", 1), (1, "a", 2), (2, "a", 3), (3, "a", 3))
        self.assertEqual(machine(book(("a", (8,)), forbidden=("a", "aa"))), (4, (3,), moves))
        value = book(("a", ()), ("ab", ()), ("abc", ()), forbidden=("ab",))
        self.assertEqual(machine(value), (4, (1, 3), ((0, "a", 1), (1, "b", 2), (2, "c", 3))))
        # No state stays that no longer lies on a way to an end.
        value = book(("a", ()), ("ab", ()), ("bc", ()), forbidden=("ab", "bc"))
        self.assertEqual(machine(value), (2, (1,), ((0, "a", 1),)))

    def test_forbidden_words_that_are_none(self):
        self.assertEqual(machine(book(("a", ()), forbidden=("b", "abcdefab"))), (2, (1,), ((0, "a", 1),)))
        self.assertEqual(machine(book(forbidden=("b", "abcdefab"))), NONE)

    def test_affixes(self):
        moves = ((0, "a", 1), (0, "c", 2), (1, "b", 3), (2, "a", 4), (3, "a", 1), (3, "d", 5), (4, "b", 6), (5, "a", 1))
        self.assertEqual(machine(ONE), (7, (3, 5, 6), moves))

    def test_no_words(self):
        self.assertEqual(machine(EMPTY), NONE)
        self.assertEqual(machine(book(("a", (9,)), ("bc", (0, 9)))), NONE)
        self.assertEqual(machine(book(("a", ()), ("bc", ()), forbidden=("a", "bc"))), NONE)
        self.assertEqual(machine(book(("a", ()), ("bc", (9,)), forbidden=("a",))), NONE)

    def test_by_name(self):
        self.assertEqual(machine(value=EMPTY), NONE)


class TestSameWords(unittest.TestCase):
    def test_different_books(self):
        adding = ("suf", 0, "", "d", "", True)
        taking = ("suf", 3, "d", "", "", True)
        same = (
            book(("a", ()), ("ad", ())),
            book(("a", (0,)), affixes=(adding,)),
            book(("ad", (3,)), affixes=(taking,)),
            book(("a", (0,)), ("ad", ()), ("ba", ()), affixes=(adding,), forbidden=("ba",)),
            book(("a", (0,)), ("ad", (9,)), affixes=(taking, adding), forbidden=("ac", "ddd")),
        )
        for value in same:
            self.assertEqual(machine(value), (3, (1, 2), ((0, "a", 1), (1, "d", 2))))

    def test_joined(self):
        plain = machine(book(("a", (8,))))
        self.assertEqual(machine(book(("a", (8,)), ("aa", (8,)))), plain)
        self.assertEqual(machine(book(("a", (8,)), ("aaaa", ()))), plain)
        self.assertEqual(machine(book(("a", (8,)), ("aaaa", (9,)))), plain)
        self.assertNotEqual(machine(book(("a", (8, 9)), ("aaaa", ()))), plain)
        self.assertNotEqual(machine(book(("a", (8,)), ("b", (8,)))), plain)


class TestDrawnBooks(unittest.TestCase):
    def test_form_and_least(self):
        values = list(reference.drawn_books(6, 150)) + list(reference.drawn_books(7, 50, letters="abc", forbidden=5))
        for value in values + [FULL, ONE]:
            found = machine(value)
            self.assertTrue(reference.is_machine(found), value)
            self.assertTrue(found[0] > 60 or reference.is_least(found), value)

    def test_words(self):
        for value in reference.drawn_books(8, 150, letters="abc", stem=4):
            self.assertEqual(reference.words_told(machine(value), 7), reference.words(value, 7))

    def test_against_brute_force(self):
        many = 0
        for value in reference.drawn_books(9, 150, affixes=2, entries=3, stem=2, forbidden=2):
            longest = max([len(form) for _, form in reference.all_parts(value, lambda flags: True)], default=0)
            if longest <= 3 and all(len(word) <= 3 for word in value[2]):
                self.assertEqual(machine(value), reference.machine_by_tails(value, 4), value)
                many += 1
        self.assertGreater(many, 50)

    def test_largest(self):
        found = machine(LARGEST)
        self.assertGreater(found[0], 500)
        count, ends, moves = found
        self.assertEqual(sorted({state for state, _, _ in moves} | set(ends)), list(range(count)))
        for word in sorted(reference.words(LARGEST, 13))[::500]:
            self.assertTrue(reference.tells(found, word))
        for word in LARGEST[2]:
            self.assertFalse(reference.tells(found, word))
