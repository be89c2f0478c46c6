"""[27] to [29], [5]: the distance of two strings, and the words near a text."""

import random
import unittest

from stemsure.errors import BadValue
from stemsure.nearby import distance, near
from tests import reference, reference_near
from tests.samples import EMPTY, FULL, LARGEST, ONE, odd_values

# Each string of letters is a word.
ALL = ((), tuple((letter, (8,)) for letter in "abcdef"), ())


def book(*entries, affixes=(), forbidden=()):
    return (affixes, entries, forbidden)


class Checks(unittest.TestCase):
    def raises_at(self, at, call, *given, **named):
        with self.assertRaises(BadValue) as held:
            call(*given, **named)
        self.assertEqual(held.exception.at, at)


class TestDistance(Checks):
    def is_apart(self, one, other, steps):
        self.assertEqual(distance(one, other), steps, (one, other))
        self.assertEqual(distance(other, one), steps, (other, one))

    def test_equal_strings(self):
        for text in ("", "a", "aa", "abcdefabcdef", "ffffffffffff"):
            self.is_apart(text, text, 0)

    def test_the_empty_string(self):
        for text in ("a", "ab", "aaa", "abcdefabcdef"):
            self.is_apart("", text, len(text))

    def test_one_step(self):
        for one, other in (
            ("abc", "abcd"), ("abc", "dabc"), ("abc", "adbc"), ("abc", "abbc"),
            ("abc", "bc"), ("abc", "ac"), ("abc", "ab"), ("a", ""),
            ("abc", "dbc"), ("abc", "adc"), ("abc", "abd"), ("a", "b"),
            ("abc", "bac"), ("abc", "acb"), ("ab", "ba"), ("abcdefabcdef", "abcdefbacdef"),
        ):
            self.is_apart(one, other, 1)

    def test_swaps_beside_other_steps(self):
        self.is_apart("ab", "bca", 3)
        self.is_apart("ab", "bac", 2)
        self.is_apart("ab", "cba", 2)
        self.is_apart("abc", "bda", 3)
        self.is_apart("abc", "bad", 2)
        self.is_apart("abcd", "badc", 2)
        self.is_apart("abc", "bca", 2)
        self.is_apart("abc", "cab", 2)
        self.is_apart("abc", "cba", 2)
        self.is_apart("abd", "bdda", 3)
        self.is_apart("ab", "b", 1)
        self.is_apart("abab", "baba", 2)
        self.is_apart("ababab", "bababa", 2)
        self.is_apart("abcdef", "badcfe", 3)
        self.is_apart("abcabcabcabc", "bacbacbacbac", 4)

    def test_far_apart(self):
        self.is_apart("aaaaaaaaaaaa", "bbbbbbbbbbbb", 12)
        self.is_apart("aaaaaaaaaaaa", "b", 12)
        self.is_apart("abcdef", "fedcba", 5)
        self.is_apart("abcdefabcdef", "fedcbafedcba", reference_near.distance("abcdefabcdef", "fedcbafedcba"))

    def test_against_the_reference(self):
        rng = random.Random(20)
        for letters in ("a", "ab", "ab", "abc", "abcdef"):
            for _ in range(400):
                one = reference.drawn_text(rng, letters, 0, rng.choice((3, 5, 12)))
                other = reference.drawn_text(rng, letters, 0, rng.choice((3, 5, 12)))
                if rng.random() < 0.5:
                    other = one
                    for _ in range(rng.randint(1, 4)):
                        other = rng.choice(sorted(reference_near.stepped(other, letters)))
                    other = other[:12]
                self.is_apart(one, other, reference_near.distance(one, other))

    def test_all_short_strings(self):
        texts = [""] + list(reference.texts("abc", 3))
        for one in texts:
            for other in texts:
                self.assertEqual(distance(one, other), reference_near.distance(one, other))

    def test_lengths_and_letters(self):
        wrong = ["a" * 13, "abcdefabcdefa", "g", "A", "a b", "ab\n", "-", ["a"], ("a", "b"), [], 0, 1, 1.5, b"a"]
        for value in wrong + [value for value in odd_values() if value != ""]:
            self.raises_at(0, distance, value, "a")
            self.raises_at(1, distance, "a", value)
            self.raises_at(1, distance, "", value)
            self.raises_at(0, distance, value, value)
            self.raises_at(0, distance, value, None)

    def test_by_name(self):
        self.assertEqual(distance(other="ab", one="abcd"), 2)
        self.raises_at(0, distance, other="ab", one=None)
        self.raises_at(1, distance, other=None, one="ab")


class TestNear(Checks):
    def test_example(self):
        self.assertEqual(near(ONE, "bad", 1, 9), ((1, "abd"),))

    def test_each_step(self):
        value = book(("ab", ()), ("abc", ()), ("abd", ()), ("bac", ()), ("dbc", ()), ("abcc", ()), ("fabc", ()))
        right = ((0, "abc"), (1, "ab"), (1, "abd"), (1, "bac"), (1, "dbc"), (1, "abcc"), (1, "fabc"))
        self.assertEqual(near(value, "abc", 1, 40), right)
        self.assertEqual(near(value, "abc", 0, 40), right[:1])
        self.assertEqual(near(value, "abc", 2, 40), right)

    def test_sequence_is_by_distance_then_length_then_letters(self):
        value = book(("b", ()), ("f", ()), ("aa", ()), ("ab", ()), ("fa", ()), ("aab", ()), ("bbb", ()), ("aaab", ()))
        self.assertEqual(
            near(value, "aa", 2, 40),
            ((0, "aa"), (1, "ab"), (1, "fa"), (1, "aab"), (2, "b"), (2, "f"), (2, "aaab")),
        )

    def test_a_letter_takes_part_in_one_step(self):
        value = book(("bac", ()), ("bca", ()), ("bcda", ()))
        self.assertEqual(near(value, "ab", 2, 40), ((2, "bac"),))
        self.assertEqual(near(book(("ab", ())), "bca", 2, 40), ())

    def test_most(self):
        value = book(("a", ()), ("aa", ()), ("aaa", ()), ("aaaa", ()), ("aaaaa", ()))
        for most in range(3):
            self.assertEqual({steps for steps, _ in near(value, "aaa", most, 40)}, set(range(most + 1)))

    def test_limit_gives_the_beginning(self):
        for value, text, step in ((FULL, "fcab", 1), (ALL, "abc", 1), (ONE, "abab", 1), (LARGEST, "abbba", 13)):
            for most in range(3):
                right = near(value, text, most, 40)
                for limit in range(0, 41, step):
                    self.assertEqual(near(value, text, most, limit), right[:limit])

    def test_the_empty_text(self):
        self.assertEqual(near(ALL, "", 0, 40), ())
        self.assertEqual(near(ALL, "", 1, 40), tuple((1, letter) for letter in "abcdef"))
        pairs = [(2, one + other) for one in "abcdef" for other in "abcdef"]
        self.assertEqual(near(ALL, "", 2, 40), tuple([(1, letter) for letter in "abcdef"] + pairs)[:40])
        self.assertEqual(near(book(("abc", ())), "", 2, 40), ())

    def test_texts_of_10_letters(self):
        value = book(("ab", (8,)))
        self.assertEqual(near(value, "ababababab", 2, 40), ((0, "ab" * 5), (2, "ab" * 4), (2, "ab" * 6)))
        self.assertEqual(near(value, "babababab", 1, 40), ((1, "ab" * 4), (1, "ab" * 5)))
        strings = reference_near.strings_within("fcabfcabfc", 2, "abcdf")
        words = {word for word in strings if reference.ways(FULL, word)}
        self.assertEqual(near(FULL, "fcabfcabfc", 2, 40), reference_near.near(words, "fcabfcabfc", 2, 40))

    def test_books_without_words(self):
        for value in (EMPTY, book(("a", (9,))), book(("a", ()), forbidden=("a",)), book(forbidden=("b",))):
            for text in ("", "a", "ab", "abcdefabcd"):
                self.assertEqual(near(value, text, 2, 40), ())

    def test_forbidden_words(self):
        value = book(("a", (8,)), ("b", (8,)), forbidden=("ab", "ba", "aab"))
        self.assertEqual(near(value, "ab", 0, 40), ())
        right = ((1, "a"), (1, "b"), (1, "aa"), (1, "bb"), (1, "aba"), (1, "abb"), (1, "bab"))
        self.assertEqual(near(value, "ab", 1, 40), right)

    def test_forms_and_joined_forms(self):
        self.assertEqual(near(ONE, "abda", 1, 40), ((1, "abd"), (1, "abdab")))
        self.assertEqual(near(ONE, "abba", 1, 40), ((1, "abab"),))
        only = book(("ab", (8, 9)))
        self.assertEqual(near(only, "ab", 2, 40), ((2, "abab"),))

    def test_against_all_words(self):
        rng = random.Random(21)
        for letters, books in (("ab", 40), ("abc", 12)):
            for value in reference.drawn_books(22, books, letters=letters, forbidden=5):
                known = reference.words(value, 8)
                for _ in range(6):
                    text = reference.drawn_text(rng, letters, 0, 6)
                    most, limit = rng.randint(0, 2), rng.choice((0, 1, 5, 40, 40))
                    self.assertEqual(
                        near(value, text, most, limit), reference_near.near(known, text, most, limit)
                    )

    def test_long_texts_against_all_words(self):
        rng = random.Random(23)
        for value in reference.drawn_books(24, 20):
            known = reference.words(value, 12)
            text = rng.choice(sorted(word for word in known if len(word) <= 10) or ["abbaabab"])
            text = rng.choice(sorted(reference_near.stepped(text, "ab")))[:10]
            self.assertEqual(near(value, text, 2, 40), reference_near.near(known, text, 2, 40))

    def test_arguments(self):
        for value in (ONE, EMPTY):
            for text in ("a" * 11, "g", "Ab", "a b", "ab\n", ["a"], ("a",), 0, None, True):
                self.raises_at(1, near, value, text, 2, 40)
                self.raises_at(1, near, value, text, None, None)
            for text in [text for text in odd_values() if text != ""]:
                self.raises_at(1, near, value, text, 3, 41)
            for most in [-1, 3, "1", (1,), [1], "", 2.0] + odd_values():
                self.raises_at(2, near, value, "ab", most, 40)
                self.raises_at(2, near, value, "ab", most, 41)
            for limit in [-1, 41, "1", (1,), [1], "", 2.0] + odd_values():
                self.raises_at(3, near, value, "ab", 2, limit)
        for value in odd_values():
            self.raises_at(0, near, value, None, None, None)
            self.raises_at(0, near, value, "ab", 1, 1)

    def test_edges_of_the_arguments(self):
        self.assertEqual(near(ONE, "ab", 0, 0), ())
        self.assertEqual(near(ONE, "ab", 2, 0), ())
        self.assertEqual(near(ONE, "ab", 0, 40), ((0, "ab"),))
        self.assertEqual(near(ONE, "", 0, 1), ())
        self.assertEqual(near(ONE, "abababababab"[:10], 0, 1), ((0, "ababababab"),))

    def test_by_name(self):
        self.assertEqual(near(limit=9, most=1, text="bad", value=ONE), ((1, "abd"),))
        self.raises_at(3, near, limit=None, most=1, text="bad", value=ONE)
        self.raises_at(0, near, limit=None, most=None, text=None, value=None)


class TestLargest(Checks):
    def test_largest_books_of_two_letters(self):
        rng = random.Random(25)
        known = reference.words(LARGEST, 12)
        texts = ["abbaababab", "aaaaaaaaaa", "abbbbabbbb", "bbabababab"]
        texts += [rng.choice(sorted(known))[:10] for _ in range(8)]
        for text in texts:
            for most in range(3):
                self.assertEqual(near(LARGEST, text, most, 40), reference_near.near(known, text, most, 40))

    def test_books_of_all_strings(self):
        for text in ("abcdefabcd", "aaaaaaaaaa", "abababab", "fed"):
            strings = reference_near.strings_within(text, 2)
            self.assertEqual(near(ALL, text, 2, 40), reference_near.near(strings, text, 2, 40))

    def test_nearly_all_strings(self):
        # Words of an even number of letters alone: they stand at the distances 0 and 2, or at 1.
        pairs = ("ab", "ba", "cd", "dc", "ef", "fe", "aa", "ff")
        value = book(*[(pair, (8,)) for pair in sorted(pairs)], forbidden=("abab", "abcdef"))
        for text in ("abcdefab", "abcdefabc", "aaffaaffaa"):
            strings = reference_near.strings_within(text, 2)
            words = {word for word in strings if reference.ways(value, word)}
            self.assertEqual(near(value, text, 2, 40), reference_near.near(words, text, 2, 40))


class TestReference(unittest.TestCase):
    def test_strings_within_are_all_there_are(self):
        for text in ("", "a", "abab", "aabb"):
            for most in range(3):
                strings = {""} | set(reference.texts("abc", len(text) + most))
                right = {some for some in strings if reference_near.distance(text, some) <= most}
                self.assertEqual(reference_near.strings_within(text, most, "abc"), right)
