"""[30] to [32], [6]: the fewest entries that bear just some words, and the full entries."""

import itertools
import random
import unittest

from stemsure.books import is_book
from stemsure.errors import BadValue
from stemsure.fewest import few, fewest, full_entries, paper, paper_holds
from tests import reference, reference_fewest
from tests.reference_fewest import LARGE_TASKS
from tests.samples import ADDING, odd_values

EXAMPLE = ((ADDING,), ("a", "ad", "b", "bd"))


def is_right(affixes, words, entries):
    """Whether these are entries with different stems, ascending, that together bear just the words."""
    stems = [stem for stem, _ in entries]
    used = {affix[1] for affix in affixes}
    borne = set().union(*[reference_fewest.forms(affixes, entry) for entry in entries])
    return (
        type(entries) is tuple
        and all(is_book(((), (entry,), ())) and set(entry[1]) <= used for entry in entries)
        and stems == sorted(set(stems), key=reference.order)
        and borne == set(words)
    )


class Checks(unittest.TestCase):
    def are_fewest(self, affixes, words, many):
        self.assertEqual(fewest(affixes, words), many)
        found = few(affixes, words)
        self.assertEqual(len(found), many)
        self.assertTrue(is_right(affixes, words, found), found)
        self.assertIs(paper_holds(affixes, words, many, paper(affixes, words)), True)


class TestFewest(Checks):
    def test_example(self):
        self.assertEqual(fewest(*EXAMPLE), 2)
        self.assertEqual(few(*EXAMPLE), (("a", (0,)), ("b", (0,))))

    def test_stems_alone(self):
        self.are_fewest((), ("a",), 1)
        self.assertEqual(few((), ("a",)), (("a", ()),))
        ten = ("fedcba", "a", "b", "c", "d", "ab", "cab", "ffffff", "ff", "aaa")
        self.are_fewest((), ten, 10)
        self.assertEqual(few((), ten), tuple((word, ()) for word in sorted(ten, key=reference.order)))
        self.are_fewest((("suf", 0, "", "ee", "", True),), ten, 10)

    def test_one_entry_for_ten_words(self):
        affixes = (
            ("pre", 0, "", "b", "", True), ("pre", 1, "", "c", "", True), ("pre", 0, "", "d", "", False),
            ("suf", 2, "", "b", "", True), ("suf", 3, "", "c", "", True), ("suf", 3, "", "d", "", False),
        )
        words = ("a", "ba", "ca", "da", "ab", "ac", "ad", "bab", "cab", "bac")
        # The form cac would be one, too, if an entry had both flags.
        self.are_fewest(affixes, words, 2)
        words = ("a", "ba", "ca", "ab", "ac", "bab", "cab", "bac", "cac", "ad")
        self.are_fewest(affixes[:2] + affixes[3:], words, 1)

    def test_stems_differ(self):
        # Two full entries of the stem a would do, but their stems are not different.
        affixes = (("pre", 0, "", "b", "", True), ("suf", 1, "", "c", "", True))
        words = ("a", "ba", "ac")
        self.assertEqual(full_entries(affixes, words), (("a", (0,)), ("a", (1,)), ("ac", ()), ("ba", ())))
        self.are_fewest(affixes, words, 2)
        affixes += (("pre", 0, "", "f", "", True), ("suf", 1, "", "d", "", True))
        self.are_fewest(affixes, words + ("fa", "ad"), 3)

    def test_forms_beyond_the_words_are_not_borne(self):
        self.are_fewest((ADDING,), ("a", "ad"), 1)
        self.are_fewest((ADDING, ("suf", 0, "", "c", "", True)), ("a", "ad"), 2)
        self.are_fewest((ADDING, ("suf", 1, "", "c", "", True)), ("a", "ad"), 1)

    def test_words_that_are_longer_than_stems_may_be(self):
        # The form is a word of the entry, so it has at most six letters here.
        self.are_fewest((("suf", 0, "", "aa", "", True),), ("aaaa", "aaaaaa"), 1)
        self.are_fewest((("suf", 0, "", "aa", "", True),), ("aaaaaa",), 1)
        self.are_fewest((("suf", 0, "", "aa", "", True),), ("aaaaa", "aaaaaa"), 2)

    def test_a_cover_that_is_not_found_step_by_step(self):
        # Who takes the entry that bears the most words first needs three.
        affixes = (("suf", 0, "", "b", "", True), ("suf", 0, "", "c", "", True), ("suf", 0, "", "d", "", True),
                   ("suf", 1, "d", "e", "", True), ("suf", 2, "", "f", "", True), ("suf", 2, "b", "bd", "", True))
        words = ("a", "ab", "ac", "ad", "ae", "abd", "abf")
        self.are_fewest(affixes, words, reference_fewest.fewest(affixes, words))

    def test_against_a_search(self):
        several = 0
        for affixes, words in reference_fewest.drawn_tasks(30, 400):
            many = reference_fewest.fewest(affixes, words)
            self.are_fewest(affixes, words, many)
            several += 1 < many < len(words)
        self.assertGreater(several, 50)

    def test_against_a_search_with_affixes_of_one_letter(self):
        for affixes, words in reference_fewest.drawn_tasks(31, 150, letters="a", affixes=6, words=6, longest=6):
            self.are_fewest(affixes, words, reference_fewest.fewest(affixes, words))

    def test_largest(self):
        for affixes, words in LARGE_TASKS:
            self.assertEqual((len(affixes), len(words)), (6, 10))
            self.are_fewest(affixes, words, reference_fewest.fewest(affixes, words))
        self.assertEqual([fewest(*task) for task in LARGE_TASKS], [7, 6, 4, 10])

    def test_largest_drawn(self):
        for affixes, words in reference_fewest.drawn_tasks(32, 60, affixes=6, words=10):
            self.are_fewest(affixes, words, reference_fewest.fewest(affixes, words))


class TestFullEntries(Checks):
    def test_example(self):
        self.assertEqual(full_entries(*EXAMPLE), (("a", (0,)), ("b", (0,)), ("ad", ()), ("bd", ())))

    def test_without_affixes(self):
        self.assertEqual(full_entries((), ("b", "aa", "a")), (("a", ()), ("b", ()), ("aa", ())))

    def test_forms_beyond_the_words(self):
        self.assertEqual(full_entries((ADDING,), ("a",)), (("a", ()),))
        self.assertEqual(full_entries((ADDING,), ("a", "ad", "add")), (("a", (0,)), ("ad", (0,)), ("add", ())))
        two = (ADDING, ("suf", 0, "", "c", "", True))
        self.assertEqual(full_entries(two, ("a", "ad")), (("a", ()), ("ad", ())))
        self.assertEqual(full_entries(two, ("a", "ad", "ac")), (("a", (0,)), ("ac", ()), ("ad", ())))

    def test_flags_of_affixes_that_do_not_fit(self):
        affixes = (("suf", 3, "", "d", "b", True), ("pre", 5, "ab", "f", "", True), ("suf", 7, "", "c", "", True))
        self.assertEqual(full_entries(affixes, ("a",)), (("a", (3, 5)),))
        self.assertEqual(full_entries(affixes, ("b",)), (("b", (5,)),))
        self.assertEqual(full_entries(affixes, ("b", "bd")), (("b", (3, 5)), ("bd", (3, 5))))
        # The strip is as long as the stem.
        self.assertEqual(full_entries(affixes, ("ab",)), (("ab", (5,)),))
        self.assertEqual(full_entries(affixes, ("abd", "fd")), (("fd", (3, 5)), ("abd", (3, 5))))
        self.assertEqual(full_entries(affixes, ("abd",)), (("abd", (3,)),))

    def test_flags_that_no_affix_has_are_not_taken(self):
        for flag in range(8):
            affixes = (("suf", flag, "", "d", "", True),)
            self.assertEqual(full_entries(affixes, ("a", "ad")), (("a", (flag,)), ("ad", ())))

    def test_forms_that_are_made_otherwise_too(self):
        affixes = (("suf", 1, "", "a", "", True), ("pre", 4, "", "a", "", False))
        self.assertEqual(full_entries(affixes, ("a", "aa")), (("a", (1, 4)), ("aa", ())))

    def test_several_flag_sets_for_one_stem(self):
        affixes = (("pre", 6, "", "b", "", True), ("suf", 2, "", "c", "", True))
        words = ["a", "ba", "ac"]
        self.assertEqual(full_entries(affixes, words), (("a", (2,)), ("a", (6,)), ("ac", ()), ("ba", ())))
        words.append("bac")
        right = (("a", (2, 6)), ("ac", (6,)), ("ba", (2,)), ("bac", ()))
        self.assertEqual(full_entries(affixes, words), right)
        affixes += (("suf", 0, "", "d", "", True), ("suf", 7, "", "e", "b", True))
        words = ["a", "ba", "ac", "ad"]
        self.assertEqual(
            full_entries(affixes, words),
            (("a", (0, 2, 7)), ("a", (6, 7)), ("ac", (7,)), ("ad", (7,)), ("ba", (7,))),
        )

    def test_order_of_flags_is_that_of_tuples(self):
        # With the flag 0, no other; (1, 2, 3) comes behind (0, ..), however many flags there are.
        affixes = (
            ("pre", 0, "", "b", "", True), ("suf", 1, "", "c", "", True),
            ("suf", 2, "", "d", "", True), ("suf", 3, "", "e", "", True),
        )
        words = ("a", "ba", "ac", "ad", "ae")
        stems = tuple((word, ()) for word in ("ac", "ad", "ae", "ba"))
        self.assertEqual(full_entries(affixes, words), (("a", (0,)), ("a", (1, 2, 3))) + stems)
        affixes = affixes[1:] + (("pre", 7, "", "b", "", True),)
        self.assertEqual(full_entries(affixes, words), (("a", (1, 2, 3)), ("a", (7,))) + stems)

    def test_against_the_reference(self):
        several = 0
        for affixes, words in itertools.chain(
            reference_fewest.drawn_tasks(33, 300),
            reference_fewest.drawn_tasks(34, 100, letters="a", affixes=6, words=6, longest=6),
            reference_fewest.drawn_tasks(35, 60, letters="abc", affixes=6, words=10, longest=3),
            LARGE_TASKS,
        ):
            found = full_entries(affixes, words)
            self.assertEqual(found, reference_fewest.full_entries(affixes, words))
            several += len({stem for stem, _ in found}) < len(found)
        self.assertGreater(several, 20)


class TestAnyOrder(Checks):
    def test_words_in_any_order_as_lists_and_tuples(self):
        rng = random.Random(36)
        for affixes, words in itertools.chain(reference_fewest.drawn_tasks(37, 30), LARGE_TASKS, (EXAMPLE,)):
            right = [call(affixes, words) for call in (fewest, few, full_entries, paper)]
            for _ in range(4):
                other = rng.sample(words, len(words))
                for given in (other, tuple(other)):
                    passed = (reference.mixed(affixes, rng), given)
                    self.assertEqual([call(*passed) for call in (fewest, few, full_entries, paper)], right)
                self.assertIs(paper_holds(affixes, other, right[0], right[3]), True)

    def test_affixes_in_any_order(self):
        for affixes, words in itertools.chain(reference_fewest.drawn_tasks(38, 30), LARGE_TASKS, (EXAMPLE,)):
            self.assertEqual(full_entries(affixes[::-1], words), full_entries(affixes, words))
            self.assertEqual(fewest(affixes[::-1], words), fewest(affixes, words))


class TestArguments(unittest.TestCase):
    CALLS = (fewest, few, full_entries, paper)

    def raises_at(self, at, affixes, words):
        for call in self.CALLS:
            with self.assertRaises(BadValue) as held:
                call(affixes, words)
            self.assertEqual(held.exception.at, at)
        for bound, text in ((0, "apart"), (None, None)):
            with self.assertRaises(BadValue) as held:
                paper_holds(affixes, words, bound, text)
            self.assertEqual(held.exception.at, at)

    def test_affixes(self):
        six = tuple(("pre", flag, "", "a", "", True) for flag in range(6))
        self.assertEqual(fewest(six, ("b",)), 1)
        wrong = [six + (("pre", 6, "", "a", "", True),), six + six[:1], six[0], (six,), (ADDING, list(ADDING)), ""]
        wrong += [(ADDING[:1] + (flag,) + ADDING[2:],) for flag in (-1, 8, 9, True, False, None, "0")]
        wrong += [(ADDING[:5],), (ADDING + (True,),), (ADDING[:5] + (1,),)]
        wrong += [(("suf", 0, "d", "d", "", True),), (("suf", 0, "", "d", "ba", True),)]
        for affixes in wrong + [value for value in odd_values() if value not in ([], ())]:
            self.raises_at(0, affixes, ("a",))
            self.raises_at(0, affixes, None)

    def test_words(self):
        ten = ("a", "b", "c", "d", "e", "f", "aa", "ab", "ac", "ad")
        self.assertEqual(fewest((), ten), 10)
        self.assertEqual(fewest((), ["ffffff"]), 1)
        wrong = [(), [], ten + ("ae",), list(ten) + ["ae"], ("a", "a"), ["a", "b", "a"]]
        wrong += [("aaaaaaa",), ("a", "aaaaaaa"), ("a", ""), ("g",)]
        wrong += ["a", "abc", "", ("a", "A"), ("a", None), ("a", 1), ("a", True), ("a", ["b"]), (("a",), ("b",)), 0, 1]
        wrong += [("a", "b "), ("a\n",), {"a": 1}, {"a"}]
        for words in wrong + odd_values():
            if words not in (["a", "b"], ("a",)):
                self.raises_at(1, (), words)
                self.raises_at(1, [ADDING], words)

    def test_by_name(self):
        self.assertEqual(fewest(words=EXAMPLE[1], affixes=EXAMPLE[0]), 2)
        self.assertEqual(len(few(words=EXAMPLE[1], affixes=EXAMPLE[0])), 2)
        self.assertEqual(len(full_entries(words=EXAMPLE[1], affixes=EXAMPLE[0])), 4)
        self.assertEqual(type(paper(words=EXAMPLE[1], affixes=EXAMPLE[0])), str)
