"""[12], [13], [15], [16]: what an affix, an entry and a book is."""

import random
import unittest

from stemsure.books import forms, is_book, spells, ways
from stemsure.errors import BadValue
from stemsure.machines import first_words, how_many, is_endless, machine, unlike
from stemsure.nearby import near
from stemsure.spellers import Speller
from stemsure.texts import printed
from tests import reference
from tests.samples import ADDING, EMPTY, FULL, LARGEST, ONE, odd_values

AFFIX = ("pre", 3, "ab", "cd", "abc", False)


def put(value, path, part):
    """The value with the part in the place to which the path leads."""
    if not path:
        return part
    at = path[0]
    return value[:at] + (put(value[at], path[1:], part),) + value[at + 1:]


def paths(value):
    """All paths to sequences and parts inside the value."""
    yield ()
    if isinstance(value, tuple):
        for at, part in enumerate(value):
            for path in paths(part):
                yield (at,) + path


def part_at(value, path):
    for at in path:
        value = value[at]
    return value


def spoilt_sequences(part):
    for at in range(len(part)):
        yield part[:at] + part[at + 1:]
        yield part[:at] + (part[at],) + part[at:]
        yield part + (part[at],)
        yield part[:at] + part[at + 1:at + 2] + part[at:at + 1] + part[at + 2:]
        yield part[:at]
    yield part[::-1]
    yield part + (None,)
    yield part + ((),)


def spoilt_parts(part):
    yield from odd_values()
    yield from (0, 1, 7, 8, 9, 10, "a", "f", "ab", "ba", "aa", "pre", "suf", "Pre", (0,), ["ab", [0]], part, [part])
    if isinstance(part, str):
        yield from (part + "a", part[1:], part[:-1], part[::-1], part.upper(), part + "g", list(part), tuple(part))
    if isinstance(part, bool):
        yield from (not part, int(part), str(part))
    elif isinstance(part, int):
        yield from (part + 1, part - 1, -part, bool(part), str(part), part + 10)
    if isinstance(part, tuple):
        yield from spoilt_sequences(part)


def with_affixes(*affixes):
    return (affixes, (), ())


def with_entries(*entries):
    return ((), entries, ())


def with_forbidden(*words):
    return ((), (), words)


class TestRightBooks(unittest.TestCase):
    def test_tuples_lists_and_mixed(self):
        rng = random.Random(1)
        for book in (EMPTY, ONE, FULL, LARGEST):
            self.assertIs(is_book(book), True)
            self.assertIs(is_book(reference.lists(book)), True)
            for _ in range(20):
                self.assertIs(is_book(reference.mixed(book, rng)), True)

    def test_drawn_books(self):
        for book in reference.drawn_books(2, 200, letters="abf", entries=8, affixes=6, stem=6, forbidden=5):
            self.assertIs(is_book(book), True)
            self.assertTrue(reference.is_book(book))

    def test_by_name(self):
        self.assertIs(is_book(value=ONE), True)
        self.assertIs(is_book(value=None), False)


class TestWrongBooks(unittest.TestCase):
    def test_odd_values_are_no_books(self):
        for value in odd_values():
            self.assertIs(is_book(value), False)
        for value in (machine(ONE), machine(LARGEST), forms(ONE, "ab"), ways(ONE, "abab"), ONE + ((),), ONE[:2]):
            self.assertIs(is_book(value), False)

    def test_spoilt_at_any_place(self):
        seen = {True: 0, False: 0}
        for book in (ONE, FULL, (FULL[0][:2], FULL[1][:2], FULL[2][:2])):
            for path in paths(book):
                for part in spoilt_parts(part_at(book, path)):
                    value = put(book, path, part)
                    right = reference.is_book(value)
                    self.assertIs(is_book(value), right, value)
                    self.assertIs(is_book(reference.lists(value)), right, value)
                    seen[right] += 1
        self.assertGreater(seen[True], 200)
        self.assertGreater(seen[False], 5000)

    def test_numbers_of_affixes(self):
        six = tuple(("pre", flag, "", "a", "", True) for flag in range(6))
        self.assertTrue(is_book(with_affixes(*six)))
        self.assertFalse(is_book(with_affixes(*six, ("pre", 6, "", "a", "", True))))

    def test_affixes_need_no_order_but_differ(self):
        other = ("pre", 0, "", "a", "", True)
        self.assertTrue(is_book(with_affixes(ADDING, other)))
        self.assertTrue(is_book(with_affixes(other, ADDING)))
        self.assertFalse(is_book(with_affixes(other, ADDING, other)))
        self.assertFalse(is_book(with_affixes(list(other), ADDING, other)))
        self.assertTrue(is_book(with_affixes(other, other[:5] + (False,))))
        self.assertFalse(is_book(with_affixes(other, other[:5] + (1,))))

    def test_parts_of_an_affix(self):
        self.assertTrue(is_book(with_affixes(AFFIX)))
        right = {
            0: ("suf", "pre"),
            1: (0, 7),
            2: ("", "f", "ff", "dc"),
            3: ("", "f", "ff", "dc"),
            4: ("", "f", "af", "abcdef"),
            5: (True, False),
        }
        wrong = {
            0: ("", "Suf", "PRE", "prefix", "p", None, 0, True, ["pre"], ("p", "r", "e")),
            1: (-1, 8, 9, True, False, None, "0", "", [0], (), 10 ** 30),
            2: ("g", "A", "aaa", "a ", " ", "a\n", None, 0, True, [], ["a", "b"], "cd"),
            3: ("g", "A", "aaa", "a ", " ", "a\n", None, 0, True, [], ["a", "b"], "ab"),
            4: ("g", "ba", "aa", "abb", "abcdeff", "abcdefg", "bcdefa", "a f", None, 0, True, [], ["a", "b"]),
            5: (0, 1, None, "", "True", "yes", [], [True]),
        }
        for at in range(6):
            for part in right[at]:
                self.assertTrue(is_book(with_affixes(put(AFFIX, (at,), part))), part)
            for part in wrong[at]:
                self.assertFalse(is_book(with_affixes(put(AFFIX, (at,), part))), part)

    def test_strip_and_add_are_not_equal(self):
        for text in ("", "a", "ab"):
            self.assertFalse(is_book(with_affixes(("pre", 0, text, text, "", True))))
            self.assertTrue(is_book(with_affixes(("pre", 0, text, "f", "", True))))

    def test_numbers_of_entries(self):
        eight = tuple((word, ()) for word in ("a", "b", "c", "d", "e", "f", "aa", "ab"))
        self.assertTrue(is_book(with_entries(*eight)))
        self.assertFalse(is_book(with_entries(*eight, ("ac", ()))))

    def test_stems(self):
        for stem in ("a", "f", "ffffff", "abcdef"):
            self.assertTrue(is_book(with_entries((stem, ()))))
        for stem in ("", "g", "aaaaaaa", "Ab", "a-b", "ab ", None, 0, True, [], ["a"], ("a",)):
            self.assertFalse(is_book(with_entries((stem, ()))))

    def test_flags(self):
        for flags in ((), (0,), (9,), (8, 9), (0, 8), tuple(range(10)), [0, 9]):
            self.assertTrue(is_book(with_entries(("a", flags))))
        for flags in ((-1,), (10,), (1, 0), (0, 0), (8, 9, 9), (True,), (False,), (0, True), (None,), ("0",), "", "0",
                      None, 0, ((),), ((0,),), tuple(range(11)), [0] * 4000):
            self.assertFalse(is_book(with_entries(("a", flags))), flags)

    def test_entries_ascend_by_length_first(self):
        self.assertTrue(is_book(with_entries(("b", ()), ("aa", ()), ("ab", ()))))
        self.assertFalse(is_book(with_entries(("aa", ()), ("b", ()))))
        self.assertFalse(is_book(with_entries(("b", ()), ("a", ()))))
        self.assertFalse(is_book(with_entries(("a", ()), ("a", ()))))
        self.assertFalse(is_book(with_entries(("a", ()), ("a", (0,)))))
        self.assertFalse(is_book(with_entries(("a", (), ()))))
        self.assertFalse(is_book(with_entries(("a",))))

    def test_forbidden_words(self):
        five = ("a", "b", "aa", "ffff", "aaaaaaaa")
        self.assertTrue(is_book(with_forbidden(*five)))
        self.assertFalse(is_book(with_forbidden(*five, "aaaaaaab")))
        self.assertTrue(is_book(with_forbidden("abcdefab")))
        self.assertFalse(is_book(with_forbidden("abcdefabc")))
        for words in (("b", "a"), ("aa", "b"), ("a", "a"), ("",), ("g",), (None,), (0,), (("a",),), (True,)):
            self.assertFalse(is_book(with_forbidden(*words)), words)
        for words in ("", "a", "ab", None, 0, True):
            self.assertFalse(is_book(((), (), words)))

    def test_a_string_is_no_sequence(self):
        for value in ("", "abc", ("", "", ""), ((), "", ()), ("", (), ()), ((), (), ""), (("abcdef",), (), ()),
                      ((), ("ab",), ()), ((), (("a", ""),), ())):
            self.assertFalse(is_book(value))


class TestBadValueForBooks(unittest.TestCase):
    def raises_at(self, at, call, *given):
        with self.assertRaises(BadValue) as held:
            call(*given)
        self.assertEqual(held.exception.at, at)

    def wrong_books(self):
        spoilt = [put(FULL, (0, 0, 5), 1), put(FULL, (1, 0), ("b", ())), put(ONE, (2,), None), FULL[:2]]
        return odd_values() + spoilt + [machine(ONE), [ONE], (FULL, FULL, FULL)]

    def test_every_function_refuses_what_is_no_book(self):
        for value in self.wrong_books():
            # What is wrong in the second argument, too, does not matter.
            for second in ("ab", None, 3, 77):
                for call in (forms, spells, ways, first_words, how_many):
                    self.raises_at(0, call, value, second)
                self.raises_at(0, near, value, second, second, second)
            for call in (machine, is_endless, printed, Speller):
                self.raises_at(0, call, value)
            self.raises_at(0, unlike, value, ONE)
            self.raises_at(1, unlike, ONE, value)
            self.raises_at(0, unlike, value, value)

    def test_by_name(self):
        with self.assertRaises(BadValue) as held:
            unlike(other=ONE, one=None)
        self.assertEqual(held.exception.at, 0)
        with self.assertRaises(BadValue) as held:
            unlike(other=None, one=ONE)
        self.assertEqual(held.exception.at, 1)
