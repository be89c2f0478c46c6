"""[14], [17]: the forms of an entry."""

import unittest

from stemsure.books import forms
from stemsure.errors import NoStem
from tests import reference
from tests.samples import FULL, LARGEST, ONE, odd_values


def of(stem, *affixes, flags=(0,)):
    """The forms of an entry with this stem in a book with these affixes."""
    return forms((affixes, ((stem, flags),), ()), stem)


def pre(strip, add, ends="", cross=True, flag=0):
    return ("pre", flag, strip, add, ends, cross)


def suf(strip, add, ends="", cross=True, flag=0):
    return ("suf", flag, strip, add, ends, cross)


class TestOneAffix(unittest.TestCase):
    def test_without_affixes(self):
        self.assertEqual(of("ab"), ("ab",))
        self.assertEqual(forms(ONE, "cab"), ("cab",))
        self.assertEqual(forms(ONE, "ab"), ("ab", "abd"))

    def test_adding(self):
        self.assertEqual(of("ab", pre("", "cd")), ("ab", "cdab"))
        self.assertEqual(of("ab", suf("", "cd")), ("ab", "abcd"))

    def test_stripping(self):
        self.assertEqual(of("abc", pre("ab", "")), ("c", "abc"))
        self.assertEqual(of("abc", suf("bc", "")), ("a", "abc"))

    def test_both(self):
        self.assertEqual(of("abc", pre("a", "f")), ("abc", "fbc"))
        self.assertEqual(of("abc", suf("c", "ff")), ("abc", "abff"))

    def test_strip_must_stand_there(self):
        for affix in (pre("b", "d"), pre("c", "d"), suf("a", "d"), suf("ab", "d"), pre("bc", ""), pre("aa", "")):
            self.assertEqual(of("abc", affix), ("abc",))
        self.assertEqual(of("aba", pre("a", "d")), ("aba", "dba"))
        self.assertEqual(of("aba", suf("a", "d")), ("aba", "abd"))

    def test_strip_as_long_as_the_stem(self):
        for stem in ("d", "de"):
            self.assertEqual(of(stem, pre(stem, "c")), (stem,))
            self.assertEqual(of(stem, suf(stem, "c")), (stem,))
            self.assertEqual(of("f" + stem, suf(stem, "c")), ("fc", "f" + stem))
            self.assertEqual(of(stem + "f", pre(stem, "c")), ("cf", stem + "f"))
        self.assertEqual(of("a", pre("ab", "c"), suf("ba", "c")), ("a",))

    def test_ends(self):
        self.assertEqual(of("abc", pre("", "d", "af")), ("abc", "dabc"))
        self.assertEqual(of("abc", pre("", "d", "bc")), ("abc",))
        self.assertEqual(of("abc", suf("", "d", "bc")), ("abc", "abcd"))
        self.assertEqual(of("abc", suf("", "d", "ab")), ("abc",))
        self.assertEqual(of("abc", suf("", "d", "abcdef")), ("abc", "abcd"))
        # The letter of the stem counts, not that which stands there behind the change.
        self.assertEqual(of("abc", suf("c", "d", "c")), ("abc", "abd"))
        self.assertEqual(of("abc", suf("c", "d", "bd")), ("abc",))

    def test_flags(self):
        affixes = (suf("", "a", flag=0), suf("", "b", flag=1), suf("", "c", flag=7), pre("", "d", flag=1))
        self.assertEqual(of("f", *affixes, flags=()), ("f",))
        self.assertEqual(of("f", *affixes, flags=(0,)), ("f", "fa"))
        self.assertEqual(of("f", *affixes, flags=(7,)), ("f", "fc"))
        self.assertEqual(of("f", *affixes, flags=(1,)), ("f", "df", "fb", "dfb"))
        self.assertEqual(of("f", *affixes, flags=(2, 8, 9)), ("f",))
        self.assertEqual(of("f", *affixes, flags=(0, 7, 9)), ("f", "fa", "fc"))

    def test_several_affixes_with_one_flag(self):
        self.assertEqual(of("f", suf("", "a"), suf("", "b"), suf("", "ab")), ("f", "fa", "fb", "fab"))


class TestTwoAffixes(unittest.TestCase):
    def test_crossing(self):
        self.assertEqual(of("ab", pre("", "c"), suf("", "d")), ("ab", "abd", "cab", "cabd"))
        self.assertEqual(of("ab", suf("", "d"), pre("", "c")), ("ab", "abd", "cab", "cabd"))
        self.assertEqual(of("abab", pre("a", "c"), suf("b", "dd")), ("abab", "cbab", "abadd", "cbadd"))

    def test_not_crossing(self):
        for one, two in ((True, False), (False, True), (False, False)):
            self.assertEqual(of("ab", pre("", "c", "", one), suf("", "d", "", two)), ("ab", "abd", "cab"))

    def test_both_must_be_taken_and_fit(self):
        self.assertEqual(of("ab", pre("", "c"), suf("", "d", flag=1)), ("ab", "cab"))
        self.assertEqual(of("ab", pre("", "c", "b"), suf("", "d")), ("ab", "abd"))

    def test_two_of_one_side_do_not_cross(self):
        self.assertEqual(of("ab", suf("", "c"), suf("", "d")), ("ab", "abc", "abd"))

    def test_stem_longer_than_both_strips(self):
        self.assertEqual(of("abc", pre("a", "d"), suf("c", "d")), ("abc", "abd", "dbc", "dbd"))
        self.assertEqual(of("ac", pre("a", "d"), suf("c", "d")), ("ac", "ad", "dc"))
        self.assertEqual(of("abcda", pre("ab", ""), suf("da", "")), ("c", "abc", "cda", "abcda"))
        self.assertEqual(of("abda", pre("ab", ""), suf("da", "")), ("ab", "da", "abda"))
        self.assertEqual(of("aaa", pre("aa", "b"), suf("aa", "c")), ("ac", "ba", "aaa"))

    def test_equal_forms_count_once(self):
        self.assertEqual(of("aa", pre("", "a"), suf("", "a")), ("aa", "aaa", "aaaa"))
        self.assertEqual(of("aa", pre("a", "aa"), suf("", "a")), ("aa", "aaa", "aaaa"))
        # A form may be the stem again.
        self.assertEqual(of("aa", pre("a", ""), suf("", "a")), ("a", "aa", "aaa"))

    def test_longest(self):
        self.assertEqual(of("abcdef", pre("", "ff"), suf("", "aa"))[-1], "ffabcdefaa")

    def test_order_is_by_length_first(self):
        self.assertEqual(of("bb", pre("b", ""), suf("", "a")), ("b", "ba", "bb", "bba"))


class TestManyForms(unittest.TestCase):
    def test_against_the_reference(self):
        for book in (FULL, LARGEST, *reference.drawn_books(3, 300, letters="abc", entries=8, affixes=6, stem=6)):
            for stem, _ in book[1]:
                self.assertEqual(forms(book, stem), reference.forms(book, stem))

    def test_forbidden_words_are_forms_all_the_same(self):
        self.assertEqual(forms(((), (("a", (8, 9)),), ("a",)), "a"), ("a",))


class TestNoStem(unittest.TestCase):
    def test_what_is_no_stem(self):
        for book in (FULL, ((), (), ())):
            for stem in odd_values() + ["aa", "dab", "fedcb", "fedcbaa", ("ab",), ["ab"], 0, 1]:
                with self.assertRaises(NoStem) as held:
                    forms(book, stem)
                self.assertIs(held.exception.word, stem)

    def test_forms_that_are_no_stems(self):
        with self.assertRaises(NoStem) as held:
            forms(value=ONE, stem="abd")
        self.assertEqual(held.exception.word, "abd")

    def test_by_name(self):
        self.assertEqual(forms(stem="ab", value=ONE), ("ab", "abd"))
