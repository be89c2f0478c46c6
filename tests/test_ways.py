"""[20], [21]: the ways to make a word."""

import time
import unittest

from stemsure.books import ways
from stemsure.errors import BadValue, TooMany
from tests import reference
from tests.samples import EMPTY, FULL, LARGEST, ONE, odd_values

JUST_2000 = ((("pre", 0, "", "a", "", True),), (("a", (8,)), ("aa", (0, 8)), ("aaaa", (0, 8)), ("aaaaaa", (0, 8))), ())
JUST_2001 = (
    (("pre", 0, "a", "", "", False),),
    (("a", (0, 8)), ("aa", (0, 8, 9)), ("aaa", (8,)), ("aaaa", (0, 8))),
    (),
)

# Over one letter, with very many ways for each form.
ONE_LETTER = (
    tuple(("pre", 0, "", add, "", True) for add in ("a", "aa"))
    + tuple(("suf", 0, strip, add, "", True) for strip, add in (("", "a"), ("", "aa"), ("a", ""), ("aa", ""))),
    tuple(("a" * many, (0, 8)) for many in range(1, 7)),
    (),
)


class TestWays(unittest.TestCase):
    def test_example(self):
        self.assertEqual(ways(ONE, "abab"), ((("ab", -1, -1), ("ab", -1, -1)),))
        self.assertEqual(ways(ONE, "abdab"), ((("ab", -1, 0), ("ab", -1, -1)),))
        self.assertEqual(ways(ONE, "ab"), ((("ab", -1, -1),),))
        self.assertEqual(ways(ONE, "cab"), ((("cab", -1, -1),),))
        self.assertEqual(ways(ONE, "cabab"), ())

    def test_with_affixes(self):
        affixes = (("suf", 0, "", "d", "", True), ("pre", 0, "a", "c", "", True), ("pre", 1, "", "c", "", True))
        value = (affixes, (("ab", (0,)), ("ac", (1,))), ())
        self.assertEqual(ways(value, "abd"), ((("ab", -1, 0),),))
        self.assertEqual(ways(value, "cb"), ((("ab", 1, -1),),))
        self.assertEqual(ways(value, "cbd"), ((("ab", 1, 0),),))
        self.assertEqual(ways(value, "cac"), ((("ac", 2, -1),),))
        self.assertEqual(ways(value, "cacd"), ())

    def test_several_ways_for_one_form(self):
        affixes = (("suf", 0, "", "a", "", True), ("pre", 0, "", "a", "", True), ("suf", 0, "a", "aa", "", False))
        value = (affixes, (("a", (0,)), ("aa", ())), ())
        self.assertEqual(ways(value, "aa"), ((("a", -1, 0),), (("a", 1, -1),), (("aa", -1, -1),)))
        self.assertEqual(ways(value, "aaa"), ((("a", 1, 0),),))
        both = (affixes, (("aa", (0,)),), ())
        self.assertEqual(ways(both, "aaa"), ((("aa", -1, 0),), (("aa", -1, 2),), (("aa", 1, -1),)))

    def test_order_is_that_of_tuples(self):
        value = ((), (("b", (8,)), ("ab", (8,)), ("abb", (8,)), ("bab", (8,))), ())
        found = ways(value, "babb")
        parts = [tuple(part[0] for part in way) for way in found]
        self.assertEqual(parts, [("b", "ab", "b"), ("b", "abb"), ("bab", "b")])
        # A word of more letters may come first.
        value = ((), (("b", (8,)), ("bab", (8,)), ("babb", ())), ())
        self.assertEqual(ways(value, "babb"), ((("bab", -1, -1), ("b", -1, -1)), (("babb", -1, -1),)))

    def test_flags(self):
        value = ((), (("a", (8, 9)), ("b", (9,)), ("c", (8,)), ("aa", ())), ())
        self.assertEqual(ways(value, "a"), ())
        self.assertEqual(ways(value, "b"), ())
        self.assertEqual(ways(value, "ab"), ())
        self.assertEqual(ways(value, "c"), ((("c", -1, -1),),))
        self.assertEqual(ways(value, "aa"), ((("a", -1, -1), ("a", -1, -1)), (("aa", -1, -1),)))
        self.assertEqual(ways(value, "aaaa"), ((("a", -1, -1),) * 4,))

    def test_forbidden(self):
        value = ((), (("a", (8,)), ("aa", (8,))), ("aa", "aaaa"))
        self.assertEqual(ways(value, "aa"), ())
        self.assertEqual(ways(value, "aaaa"), ())
        self.assertEqual(len(ways(value, "aaa")), 3)
        self.assertEqual(len(ways(value, "aaaaa")), 8)

    def test_against_the_reference(self):
        for value in reference.drawn_books(5, 60, letters="ab", stem=4, affixes=6):
            for word in reference.texts("ab", 6):
                self.assertEqual(ways(value, word), reference.ways(value, word))

    def test_long_words_against_the_reference(self):
        for word in ("fcfcfcfcfcfc", "abdababcaba", "aabaacabab", "babdababfcab", "aabaabaacab", "abdabaab"):
            self.assertEqual(ways(FULL, word), reference.ways(FULL, word))

    def test_by_name(self):
        self.assertEqual(ways(word="ab", value=ONE), ((("ab", -1, -1),),))


class TestTooMany(unittest.TestCase):
    def too_many(self, value, word):
        with self.assertRaises(TooMany):
            ways(value, word)

    def test_just_2000(self):
        found = ways(JUST_2000, "a" * 12)
        self.assertEqual(len(found), 2000)
        self.assertEqual(found, reference.ways(JUST_2000, "a" * 12))

    def test_2001(self):
        self.assertEqual(len(reference.ways(JUST_2001, "a" * 8)), 2001)
        self.too_many(JUST_2001, "a" * 8)
        self.assertEqual(len(ways(JUST_2001, "a" * 7)), len(reference.ways(JUST_2001, "a" * 7)))

    def test_a_way_of_one_part_counts_too(self):
        adding = ("suf", 1, "", "a", "", True)
        joined = (("suf", 0, "", "a", "", True), ("suf", 0, "aa", "a", "", True), ("pre", 0, "a", "", "", True))
        entries = (("aa", (0, 8)), ("aaa", (0, 8, 9)), ("aaaa", (0, 8)), ("aaaaa", (0, 8)))
        self.assertEqual(len(ways((joined, entries, ()), "a" * 7)), 2000)
        self.assertEqual(len(ways(((adding,) + joined, entries + (("aaaaaa", (1, 9)),), ()), "a" * 7)), 2000)
        self.too_many(((adding,) + joined, entries + (("aaaaaa", (1,)),), ()), "a" * 7)

    def test_a_form_that_is_only_joined_is_no_way_of_one_part(self):
        affixes = (("pre", 0, "a", "", "", True), ("pre", 0, "", "a", "", False), ("suf", 0, "", "aa", "", True))
        first = (("a", (0, 8)), ("aa", (0, 8)), ("aaaa", (0, 8)))
        last = (("aaaaaa", (8,)),)
        value = (affixes, first + (("aaaaa", (0, 8, 9)),) + last, ())
        self.assertIn("a" * 7, reference.forms(value, "aaaaa"))
        self.assertEqual(len(ways(value, "a" * 7)), 2000)
        self.too_many((affixes, first + (("aaaaa", (0, 8)),) + last, ()), "a" * 7)

    def test_a_form_that_is_joined_and_alone_counts_once(self):
        affixes = (("suf", 0, "", "a", "", True), ("suf", 0, "a", "", "", True), ("pre", 0, "", "a", "", True))
        entries = (("a", (8,)), ("aa", (0, 8, 9)), ("aaa", (8,)), ("aaaa", (0, 8, 9)), ("aaaaaa", (0, 8)))
        found = ways((affixes, entries, ()), "a" * 7)
        self.assertEqual(len(found), 1998)
        self.assertEqual(sum(len(way) == 1 for way in found), 2)

    def test_very_many(self):
        for length in range(8, 13):
            self.too_many(ONE_LETTER, "a" * length)
        for length in range(1, 4):
            self.assertEqual(ways(ONE_LETTER, "a" * length), reference.ways(ONE_LETTER, "a" * length))

    def test_a_forbidden_word_has_none_however_many_there_were(self):
        affixes, entries, _ = ONE_LETTER
        self.too_many((affixes, entries, ("aaaaaaa",)), "a" * 8)
        self.assertEqual(ways((affixes, entries, ("aaaaaaaa",)), "a" * 8), ())

    def test_many_ways_that_come_to_nothing(self):
        affixes, entries, _ = ONE_LETTER
        start = time.perf_counter()
        self.assertEqual(ways((affixes, entries, ()), "a" * 11 + "b"), ())
        # Were they all made, it would take more than ten times as long, and gigabytes.
        self.assertLess(time.perf_counter() - start, 2)
        self.assertEqual(ways((affixes, entries, ()), "b" + "a" * 11), ())
        self.assertEqual(ways(EMPTY, "a" * 12), ())

    def test_largest_book(self):
        for word in ("abbbba", "abbaababbbba", "aabbbbaabbbb"):
            self.assertEqual(ways(LARGEST, word), reference.ways(LARGEST, word))


class TestBadWords(unittest.TestCase):
    def test_12_and_13_letters(self):
        value = ((), (("f", (8,)),), ())
        self.assertEqual(ways(value, "f" * 12), ((("f", -1, -1),) * 12,))
        with self.assertRaises(BadValue) as held:
            ways(value, "f" * 13)
        self.assertEqual(held.exception.at, 1)

    def test_bad_words(self):
        wrong = ["", "g", "Ab", "ab ", "ab\n", "a" * 13, ["ab"], ("a", "b"), 0, 1]
        for value in (ONE, EMPTY, ONE_LETTER):
            for word in wrong + odd_values():
                if reference.is_text(word, 1, 12):
                    continue
                with self.assertRaises(BadValue) as held:
                    ways(value, word)
                self.assertEqual(held.exception.at, 1)
