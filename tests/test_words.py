"""[24] to [26]: the least words, their numbers, and the least word that just one book has."""

import unittest

from stemsure.errors import BadValue
from stemsure.machines import first_words, how_many, is_endless, machine, unlike
from tests import reference
from tests.samples import EMPTY, FULL, LARGEST, ONE, odd_values


def book(*entries, affixes=(), forbidden=()):
    return (affixes, entries, forbidden)


class Checks(unittest.TestCase):
    def raises_at(self, at, call, *given):
        with self.assertRaises(BadValue) as held:
            call(*given)
        self.assertEqual(held.exception.at, at)

    def refuses_second(self, call, low, high):
        for value in (ONE, EMPTY):
            for number in [low - 1, high + 1, "1", [1], (), str(low)] + odd_values():
                if not reference.is_kind_of_int(number, low, high):
                    self.raises_at(1, call, value, number)


class TestFirstWords(Checks):
    def test_fewer_words_than_the_limit(self):
        value = book(("a", ()), ("b", ()), ("aa", ()), ("fcdab", ()))
        for limit in range(51):
            self.assertEqual(first_words(value, limit), ("a", "b", "aa", "fcdab")[:limit])
        self.assertEqual(first_words(EMPTY, 50), ())
        self.assertEqual(first_words(book(("a", (9,))), 50), ())

    def test_endless(self):
        self.assertEqual(first_words(book(("a", (8,))), 50), tuple("a" * many for many in range(1, 51)))
        self.assertEqual(first_words(book(("a", (8, 9)), forbidden=("aaa",)), 3), ("aa", "aaaa", "aaaaa"))
        self.assertEqual(first_words(ONE, 7), ("ab", "abd", "cab", "abab", "ababd", "abdab", "ababab"))

    def test_long_words(self):
        value = book(("abcdef", (0, 8)), affixes=(("pre", 0, "", "ff", "", True), ("suf", 0, "", "aa", "", True)))
        self.assertEqual(first_words(value, 5), tuple(sorted(
            ("abcdef", "ffabcdef", "abcdefaa", "ffabcdefaa", "abcdefabcdef"), key=reference.order)))
        six = book(("fedcba", (8,)))
        self.assertEqual(first_words(six, 50), tuple("fedcba" * many for many in range(1, 51)))

    def test_order_is_by_length_first(self):
        value = book(("f", ()), ("ab", ()), ("ba", ()), ("aaa", ()))
        self.assertEqual(first_words(value, 4), ("f", "ab", "ba", "aaa"))

    def test_lengths_that_no_word_has(self):
        value = book(("a", ()), ("bbbbbb", ()), ("bbbbbc", (8, 9)))
        self.assertEqual(first_words(value, 4), ("a", "bbbbbb", "bbbbbcbbbbbc", "bbbbbc" * 3))

    def test_against_the_reference(self):
        for value in reference.drawn_books(10, 150):
            right = sorted(reference.words(value, 9), key=reference.order)
            for limit in (0, 1, 7, 50):
                found = first_words(value, limit)
                self.assertEqual(found[:len(right)], tuple(right[:limit]))
                self.assertEqual(len(found), limit if is_endless(value) else min(limit, len(right)))
                self.assertEqual(list(found), sorted(set(found), key=reference.order))

    def test_limits(self):
        self.assertEqual(first_words(ONE, 0), ())
        self.assertEqual(len(first_words(ONE, 50)), 50)
        self.refuses_second(first_words, 0, 50)

    def test_by_name(self):
        self.assertEqual(first_words(limit=1, value=ONE), ("ab",))


class TestEndless(Checks):
    def test_endless(self):
        for value in (ONE, FULL, LARGEST, book(("a", (8,))), book(("a", (8, 9)), forbidden=("a", "aa", "aaa"))):
            self.assertIs(is_endless(value), True)

    def test_not_endless(self):
        for value in (EMPTY, book(("a", ())), book(("a", (0, 9)), ("b", (0, 1, 7))), book(("a", (9,)))):
            self.assertIs(is_endless(value), False)

    def test_against_the_machine(self):
        for value in reference.drawn_books(11, 200):
            count, _, moves = machine(value)
            heads = {0}
            for _ in range(count):
                heads = {to for state, _, to in moves if state in heads}
            # Each state leads to an end: so a way of as many moves as states means endlessly many words.
            self.assertIs(is_endless(value), bool(heads))

    def test_by_name(self):
        self.assertIs(is_endless(value=EMPTY), False)


class TestHowMany(Checks):
    def test_few_words(self):
        value = book(("a", ()), ("b", ()), ("ab", ()), ("abc", (9,)), forbidden=("b",))
        self.assertEqual([how_many(value, length) for length in range(5)], [0, 1, 1, 0, 0])
        self.assertEqual(how_many(EMPTY, 40), 0)

    def test_a_word_counts_once(self):
        value = book(("a", (0, 8)), ("aa", (8,)), affixes=(("suf", 0, "", "a", "", True),))
        self.assertEqual([how_many(value, length) for length in range(41)], [0] + [1] * 40)

    def test_40_letters(self):
        letters = book(*[(sign, (8,)) for sign in "abcdef"])
        self.assertEqual(how_many(letters, 40), 6 ** 40)
        self.assertEqual(how_many(letters, 1), 6)
        pairs = book(("aa", (8, 9)), ("ab", (8, 9)), forbidden=("aaab",))
        self.assertEqual(how_many(pairs, 40), 2 ** 20)
        self.assertEqual(how_many(pairs, 39), 0)
        self.assertEqual(how_many(pairs, 2), 0)
        self.assertEqual(how_many(pairs, 4), 3)
        # Words of a and bb: as many as Fibonacci's numbers say.
        fibonacci = [1, 1]
        for _ in range(39):
            fibonacci.append(fibonacci[-1] + fibonacci[-2])
        value = book(("a", (8,)), ("bb", (8,)))
        for length in range(1, 41):
            self.assertEqual(how_many(value, length), fibonacci[length])

    def test_no_letters(self):
        for value in (EMPTY, ONE, FULL, LARGEST):
            self.assertEqual(how_many(value, 0), 0)

    def test_against_the_reference(self):
        for value in reference.drawn_books(12, 150):
            right = reference.words(value, 9)
            for length in range(10):
                self.assertEqual(how_many(value, length), sum(len(word) == length for word in right))

    def test_lengths(self):
        self.refuses_second(how_many, 0, 40)

    def test_by_name(self):
        self.assertEqual(how_many(length=3, value=ONE), 2)


class TestUnlike(Checks):
    def both_ways(self, one, other, word, which):
        self.assertEqual(unlike(one, other), (word, which))
        self.assertEqual(unlike(other, one), (word, 1 - which))

    def test_example(self):
        self.both_ways(ONE, (ONE[0], ONE[1][:1], ()), "cab", 0)

    def test_equal_books(self):
        for value in (EMPTY, ONE, FULL, LARGEST):
            self.assertIs(unlike(value, value), None)
            self.assertIs(unlike(value, reference.lists(value)), None)

    def test_books_with_the_same_words(self):
        self.assertIs(unlike(book(("a", (8,))), book(("a", (8,)), ("aa", ()), ("aaa", (8,)))), None)
        self.assertIs(unlike(EMPTY, book(("a", (9,)), ("b", ()), forbidden=("b",))), None)
        self.assertIs(unlike(EMPTY, book(forbidden=("b",))), None)
        self.assertIs(unlike(ONE, (ONE[0], ONE[1], ("ba",))), None)

    def test_one_word_more(self):
        self.both_ways(EMPTY, book(("f", ())), "f", 1)
        self.both_ways(book(("a", ()), ("b", ())), book(("a", ())), "b", 0)
        self.both_ways(book(("a", (8,)), ("bcdef", ())), book(("a", (8,))), "bcdef", 0)

    def test_the_least_of_several(self):
        self.both_ways(book(("b", ()), ("aa", ())), book(("c", ()), ("ab", ())), "b", 0)
        self.both_ways(book(("c", ()), ("aa", ())), book(("b", ()), ("ab", ())), "b", 1)
        self.both_ways(book(("aa", ())), book(("b", ())), "b", 1)
        self.both_ways(book(("ab", (8,))), book(("ab", ())), "abab", 0)

    def test_a_forbidden_word_alone(self):
        self.both_ways(ONE, (ONE[0], ONE[1], ("abdab",)), "abdab", 0)
        self.both_ways(LARGEST, LARGEST[:2] + ((),), "abbaab", 1)
        self.both_ways(book(("a", (8,))), book(("a", (8,)), forbidden=("aaaaaaaa",)), "aaaaaaaa", 0)
        value = book(("a", (8,)), forbidden=("a", "aaa"))
        self.both_ways(value, book(("a", (8,)), forbidden=("a", "aaaa")), "aaa", 1)

    def test_a_long_difference(self):
        one = book(("aaaaa", (8, 9)), ("aaaaaa", (8, 9)))
        other = book(("aaaaa", (8, 9)), ("aaaaaa", (8, 9)), ("bbbbbb", (8, 9)))
        self.both_ways(one, other, "aaaaabbbbbb", 1)
        adding = ("suf", 0, "", "ff", "", True)
        one = book(("aaaaaa", (0, 8, 9)), affixes=(adding, ("pre", 0, "", "ff", "", True)))
        other = book(("aaaaaa", (0, 8, 9)), affixes=(adding, ("pre", 0, "", "ff", "", False)))
        # All joined words of fewer letters with a form that has both changes are made otherwise, too.
        self.both_ways(one, other, "aaaaaaffffaaaaaaff", 0)

    def test_against_the_reference(self):
        values = list(reference.drawn_books(13, 160))
        known = [reference.words(value, 9) for value in values]
        for at, one in enumerate(values):
            for step in (1, 2, 80):
                other = values[at - step]
                apart = sorted(known[at] ^ known[at - step], key=reference.order)
                found = unlike(one, other)
                if apart:
                    self.assertEqual(found, (apart[0], 0 if apart[0] in known[at] else 1))
                else:
                    self.assertTrue(found is None or len(found[0]) > 9)

    def test_wrong_books(self):
        self.raises_at(0, unlike, None, None)
        self.raises_at(0, unlike, None, ONE)
        self.raises_at(1, unlike, ONE, None)
        self.raises_at(0, unlike, ((), (), None), ((), (), ()))

    def test_by_name(self):
        self.assertEqual(unlike(other=ONE, one=EMPTY), ("ab", 1))


class TestLargest(Checks):
    def test_largest_books(self):
        right = sorted(reference.words(LARGEST, 8), key=reference.order)
        self.assertGreaterEqual(len(right), 50)
        self.assertEqual(first_words(LARGEST, 50), tuple(right[:50]))
        for length in range(9):
            self.assertEqual(how_many(LARGEST, length), sum(len(word) == length for word in right))
        self.assertEqual(how_many(LARGEST, 13), sum(len(word) == 13 for word in reference.words(LARGEST, 13)))
        self.assertGreater(how_many(LARGEST, 40), how_many(LARGEST, 39))

    def test_largest_books_that_are_nearly_alike(self):
        affixes, entries, forbidden = LARGEST
        only = tuple((stem, flags + (9,)) for stem, flags in entries)
        known = [reference.words(value, 13) for value in (LARGEST, (affixes, only, forbidden))]
        least = min(known[0] ^ known[1], key=reference.order)
        self.assertEqual(unlike(LARGEST, (affixes, only, forbidden)), (least, 0))
        fewer = (affixes[:5], only, ())
        apart = unlike((affixes, only, ()), fewer)
        self.assertEqual(apart[1], 0)
        least = min(reference.words((affixes, only, ()), 12) ^ reference.words(fewer, 12), key=reference.order)
        self.assertEqual(apart[0], least)
