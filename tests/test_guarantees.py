"""[1] to [9]: what the functions promise about one another."""

import random
import unittest

from stemsure.books import forms, spells, ways
from stemsure.errors import BadPaper, TooMany
from stemsure.fewest import few, fewest, full_entries, paper, paper_holds
from stemsure.machines import first_words, how_many, is_endless, machine, unlike
from stemsure.nearby import distance, near
from stemsure.spellers import Speller
from stemsure.texts import parse, printed
from tests import reference, reference_fewest
from tests.reference_fewest import LARGE_TASKS
from tests.samples import ADDING, EMPTY, FULL, LARGEST, ONE


def has_ways(value, word):
    try:
        return ways(value, word) != ()
    except TooMany:
        return True


class TestGuarantees(unittest.TestCase):
    def test_overview(self):
        self.assertEqual((forms(ONE, "ab"), spells(ONE, "abdab"), is_endless(ONE)), (("ab", "abd"), True, True))
        self.assertEqual(ways(ONE, "abab"), ((("ab", -1, -1), ("ab", -1, -1)),))
        self.assertEqual(near(ONE, "bad", 1, 9), ((1, "abd"),))
        self.assertEqual(unlike(ONE, ((ADDING,), (("ab", (0, 8)),), ())), ("cab", 0))
        self.assertEqual(fewest((ADDING,), ("a", "ad", "b", "bd")), 2)

    def test_words_of_drawn_books(self):
        for value in reference.drawn_books(14, 80, forbidden=5):
            found = machine(value)
            right = reference.words(value, 7)
            for word in reference.texts("ab", 7):
                self.assertIs(spells(value, word), word in right)
                self.assertEqual(reference.tells(found, word), word in right)
                self.assertEqual(has_ways(value, word), word in right)

    def test_words_of_12_letters(self):
        for value in reference.drawn_books(15, 60):
            found = machine(value)
            for number in range(40):
                word = format(number * 97 + 4096, "b")[1:].replace("0", "a").replace("1", "b")
                self.assertEqual(len(word), 12)
                self.assertIs(has_ways(value, word), spells(value, word))
                self.assertEqual(reference.tells(found, word), spells(value, word))

    def test_words_of_40_letters(self):
        for value in (ONE, FULL, LARGEST):
            found = machine(value)
            for word in ("ab" * 20, "abd" * 13 + "a", "abbbba" * 6 + "abab", "fc" * 20, "a" * 40, "aabbbb" * 6 + "aaba"):
                self.assertEqual(reference.tells(found, word), spells(value, word))

    def test_unlike_is_none_just_for_equal_machines(self):
        values = list(reference.drawn_books(16, 120, letters="a", stem=3, entries=3, affixes=2, forbidden=1))
        machines = [machine(value) for value in values]
        alike = 0
        for at, one in enumerate(values):
            for other_at in range(0, at, 3):
                found = unlike(one, values[other_at])
                self.assertEqual(found is None, machines[at] == machines[other_at])
                if found is None:
                    alike += 1
                    continue
                word, which = found
                told = [reference.tells(machines[k], word) for k in (at, other_at)]
                self.assertEqual(told, [which == 0, which == 1])
                for shorter in range(1, len(word)):
                    self.assertEqual(spells(one, "a" * shorter), spells(values[other_at], "a" * shorter))
        self.assertGreater(alike, 100)

    def test_same_words_same_machine(self):
        values = list(reference.drawn_books(17, 120, entries=3, stem=2, affixes=2))
        by_words = {}
        for value in values:
            key = tuple(sorted(reference.words(value, 10)))
            by_words.setdefault(key, []).append(machine(value))
        for machines in by_words.values():
            for found in machines:
                self.assertEqual(found, machines[0])
        self.assertLess(len(by_words), len(values))
        self.assertEqual(len({machines[0] for machines in by_words.values()}), len(by_words))

    def test_numbers_of_words(self):
        for value in list(reference.drawn_books(18, 80)) + [ONE, FULL]:
            found = machine(value)
            told = sorted(reference.words_told(found, 6), key=reference.order)
            self.assertEqual(first_words(value, 50)[:len(told)], tuple(told[:50]))
            for length in range(7):
                self.assertEqual(how_many(value, length), len([word for word in told if len(word) == length]))
            if not is_endless(value):
                self.assertEqual(sum(how_many(value, length) for length in range(11, 41)), 0)
                self.assertEqual(len(first_words(value, 50)),
                                 min(50, sum(how_many(value, length) for length in range(11))))
            for word in first_words(value, 50):
                self.assertTrue(reference.tells(found, word))
                if len(word) <= 40:
                    self.assertIs(spells(value, word), True)


class TestNearWords(unittest.TestCase):
    """[5]: near against spells and distance."""

    def test_near_against_spells_and_distance(self):
        rng = random.Random(70)
        for value in list(reference.drawn_books(71, 40, forbidden=5)) + [ONE, FULL, LARGEST]:
            letters = "ab" if value not in (ONE, FULL) else "abcd"
            for _ in range(2):
                text = reference.drawn_text(rng, letters, 0, 5)
                most = rng.randint(0, 2)
                right = []
                for word in reference.texts(letters + "f" if value == FULL else letters, len(text) + most):
                    steps = distance(text, word)
                    if steps <= most and spells(value, word):
                        right.append((steps, len(word), word))
                right = tuple((steps, word) for steps, _, word in sorted(right))
                self.assertEqual(near(value, text, most, 40), right[:40])
                self.assertEqual(near(value, text, most, 3), right[:3])

    def test_pairs_of_long_words(self):
        for text in ("abbaababab", "bbaabbbaab", "fcabfcabfc", "abdababdab"):
            for value in (ONE, FULL, LARGEST):
                found = near(value, text, 2, 40)
                for steps, word in found:
                    self.assertIs(spells(value, word), True)
                    self.assertEqual((steps, steps), (distance(text, word), distance(word, text)))
                self.assertEqual(list(found), sorted(found, key=lambda pair: (pair[0], len(pair[1]), pair[1])))
                self.assertEqual(len(set(found)), len(found))

    def test_least_words_are_those_near_the_empty_text(self):
        for value in reference.drawn_books(72, 60):
            known = [word for word in first_words(value, 50) if len(word) <= 2]
            self.assertEqual(near(value, "", 2, 40), tuple((len(word), word) for word in known)[:40])


class TestEntries(unittest.TestCase):
    """[6], [7]: fewest against few, the forms of books, and papers."""

    def tasks(self):
        return list(reference_fewest.drawn_tasks(73, 150, affixes=6, words=8)) + list(LARGE_TASKS)

    def test_few_entries_make_a_book_of_just_the_words(self):
        for affixes, words in self.tasks():
            entries = few(affixes, words)
            self.assertEqual(len(entries), fewest(affixes, words))
            if len(entries) <= 8:
                value = (affixes, entries, ())
                known = sorted(words, key=reference.order)
                self.assertEqual(first_words(value, 50), tuple(known))
                self.assertEqual(set().union(*[forms(value, stem) for stem, _ in entries]), set(words))

    def test_full_entries_bear_words_alone_and_no_flag_more(self):
        for affixes, words in self.tasks():
            full = full_entries(affixes, words)
            used = {affix[1] for affix in affixes}
            for stem, flags in full:
                self.assertLessEqual(set(forms((affixes, ((stem, flags),), ()), stem)), set(words))
                for flag in used - set(flags):
                    more = (stem, tuple(sorted(flags + (flag,))))
                    self.assertFalse(set(forms((affixes, (more,), ()), stem)) <= set(words))
            for stem, flags in few(affixes, words):
                self.assertTrue(any(stem == other and set(flags) <= set(more) for other, more in full))

    def test_papers_hold_up_to_fewest_and_no_further(self):
        for affixes, words in self.tasks():
            many = fewest(affixes, words)
            for bound in range(many + 1):
                self.assertIs(paper_holds(affixes, words, bound, paper(affixes, words)), True)
            with self.assertRaises(BadPaper):
                paper_holds(affixes, words, many + 1, paper(affixes, words))


class TestLearntBooks(unittest.TestCase):
    """[8] with [1] to [4]: a book that was learnt has the words that it says."""

    def test_a_learnt_book(self):
        for value in list(reference.drawn_books(74, 60)) + [ONE, FULL, LARGEST]:
            affixes, entries, forbidden = value
            # Each of them is learnt like the first one with its flags.
            models = {flags: stem for stem, flags in reversed(entries)}
            start = tuple((stem, flags) for stem, flags in entries if stem in models.values())
            speller = Speller((affixes, start, ()))
            for stem, flags in reversed(entries):
                if (stem, flags) not in start:
                    speller.learn(stem, models[flags])
            for word in reversed(forbidden):
                speller.forbid(word)
            self.assertEqual(speller.whole(), value)
            self.assertEqual(machine(speller.whole()), machine(value))
            self.assertEqual(speller, Speller(value))

    def test_a_book_from_what_few_tells(self):
        for affixes, words in reference_fewest.drawn_tasks(75, 40, words=8):
            speller = Speller((affixes, few(affixes, words), ()))
            right = sorted(words, key=reference.order)
            self.assertEqual(first_words(speller.whole(), 50), tuple(right))
            for word in right[:5]:
                speller.forbid(word)
            self.assertEqual(first_words(speller.whole(), 50), tuple(right[5:]))


class TestSameWords(unittest.TestCase):
    """A book whose affixes have other flags or another sequence has the same words."""

    def check_same(self, one, other):
        self.assertEqual(machine(one), machine(other))
        self.assertIs(unlike(one, other), None)
        self.assertEqual(first_words(one, 50), first_words(other, 50))
        self.assertEqual(near(one, "abab", 2, 40), near(other, "abab", 2, 40))
        for word in reference.texts("ab", 4):
            self.assertIs(spells(one, word), spells(other, word))
            self.assertEqual(len(ways(one, word)), len(ways(other, word)))
        for stem, _ in one[1]:
            self.assertEqual(forms(one, stem), forms(other, stem))

    def test_flags_exchanged(self):
        rng = random.Random(76)
        for value in list(reference.drawn_books(77, 60)) + [ONE, FULL, LARGEST]:
            affixes, entries, forbidden = value
            other = rng.sample(range(8), 8) + [8, 9]
            changed = tuple((side, other[flag], *rest) for side, flag, *rest in affixes)
            named = tuple((stem, tuple(sorted(other[flag] for flag in flags))) for stem, flags in entries)
            self.check_same(value, (changed, named, forbidden))

    def test_sequence_exchanged(self):
        rng = random.Random(78)
        for value in list(reference.drawn_books(79, 60)) + [FULL, LARGEST]:
            affixes, entries, forbidden = value
            self.check_same(value, (tuple(rng.sample(affixes, len(affixes))), entries, forbidden))


class TestTexts(unittest.TestCase):
    """[9], and what is told of a book that was printed and parsed."""

    def test_printed_and_parsed(self):
        for value in list(reference.drawn_books(80, 80, forbidden=5)) + [EMPTY, ONE, FULL, LARGEST]:
            text = printed(value)
            self.assertEqual(parse(text), value)
            self.assertEqual(printed(parse(text)), text)
            self.assertEqual(Speller(parse(text)), Speller(value))
            self.assertIs(unlike(parse(text), value), None)

    def test_spellers_are_printed(self):
        speller = Speller(parse("affix suf 0 - d - yes\nentry ab 0 8\nforbid cab"))
        speller.learn("cab", None)
        self.assertEqual(speller, Speller(ONE))
        self.assertEqual(printed(speller.whole()), "affix suf 0 - d - yes\nentry ab 0 8\nentry cab\n")
