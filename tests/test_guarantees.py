"""[1] to [4]: what the functions promise about one another."""

import unittest

from stemsure.books import forms, spells, ways
from stemsure.errors import TooMany
from stemsure.machines import first_words, how_many, is_endless, machine, unlike
from tests import reference
from tests.samples import FULL, LARGEST, ONE


def has_ways(value, word):
    try:
        return ways(value, word) != ()
    except TooMany:
        return True


class TestGuarantees(unittest.TestCase):
    def test_overview(self):
        self.assertEqual((forms(ONE, "ab"), spells(ONE, "abdab"), is_endless(ONE)), (("ab", "abd"), True, True))
        self.assertEqual(ways(ONE, "abab"), ((("ab", -1, -1), ("ab", -1, -1)),))
        self.assertEqual(unlike(ONE, ((ONE[0][0],), (("ab", (0, 8)),), ())), ("cab", 0))

    def test_words_of_drawn_books(self):
        for value in reference.drawn_books(14, 80, forbidden=5):
            found = machine(value)
            right = reference.words(value, 7)
            for word in reference.texts("ab", 7):
                self.assertIs(spells(value, word), word in right)
                self.assertEqual(reference.tells(found, word), word in right)
                self.assertEqual(has_ways(value, word), word in right)

    def test_words_of_12_letters(self):
        for value in reference.drawn_books(15, 60):
            found = machine(value)
            for number in range(40):
                word = format(number * 97 + 4096, "b")[1:].replace("0", "a").replace("1", "b")
                self.assertEqual(len(word), 12)
                self.assertIs(has_ways(value, word), spells(value, word))
                self.assertEqual(reference.tells(found, word), spells(value, word))

    def test_words_of_40_letters(self):
        for value in (ONE, FULL, LARGEST):
            found = machine(value)
            for word in ("ab" * 20, "abd" * 13 + "a", "abbbba" * 6 + "abab", "fc" * 20, "a" * 40, "aabbbb" * 6 + "aaba"):
                self.assertEqual(reference.tells(found, word), spells(value, word))

    def test_unlike_is_none_just_for_equal_machines(self):
        values = list(reference.drawn_books(16, 120, letters="a", stem=3, entries=3, affixes=2, forbidden=1))
        machines = [machine(value) for value in values]
        alike = 0
        for at, one in enumerate(values):
            for other_at in range(0, at, 3):
                found = unlike(one, values[other_at])
                self.assertEqual(found is None, machines[at] == machines[other_at])
                if found is None:
                    alike += 1
                    continue
                word, which = found
                told = [reference.tells(machines[k], word) for k in (at, other_at)]
                self.assertEqual(told, [which == 0, which == 1])
                for shorter in range(1, len(word)):
                    self.assertEqual(spells(one, "a" * shorter), spells(values[other_at], "a" * shorter))
        self.assertGreater(alike, 100)

    def test_same_words_same_machine(self):
        values = list(reference.drawn_books(17, 120, entries=3, stem=2, affixes=2))
        by_words = {}
        for value in values:
            key = tuple(sorted(reference.words(value, 10)))
            by_words.setdefault(key, []).append(machine(value))
        for machines in by_words.values():
            for found in machines:
                self.assertEqual(found, machines[0])
        self.assertLess(len(by_words), len(values))
        self.assertEqual(len({machines[0] for machines in by_words.values()}), len(by_words))

    def test_numbers_of_words(self):
        for value in list(reference.drawn_books(18, 80)) + [ONE, FULL]:
            found = machine(value)
            told = sorted(reference.words_told(found, 6), key=reference.order)
            self.assertEqual(first_words(value, 50)[:len(told)], tuple(told[:50]))
            for length in range(7):
                self.assertEqual(how_many(value, length), len([word for word in told if len(word) == length]))
            if not is_endless(value):
                self.assertEqual(sum(how_many(value, length) for length in range(11, 41)), 0)
                self.assertEqual(len(first_words(value, 50)),
                                 min(50, sum(how_many(value, length) for length in range(11))))
            for word in first_words(value, 50):
                self.assertTrue(reference.tells(found, word))
                if len(word) <= 40:
                    self.assertIs(spells(value, word), True)
