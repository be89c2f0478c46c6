"""[10]: integers, sequences, arguments and returned values."""

import copy
import inspect
import random
import unittest

from stemsure import books, errors, machines
from stemsure.errors import StemError
from tests import reference
from tests.samples import EMPTY, FULL, LARGEST, ONE, odd_values

# Each function with the names of its arguments, and right arguments.
CALLS = (
    (books.is_book, ("value",), (FULL,)),
    (books.forms, ("value", "stem"), (FULL, "aabaac")),
    (books.spells, ("value", "word"), (FULL, "fcabfc")),
    (books.ways, ("value", "word"), (FULL, "fcabfc")),
    (machines.machine, ("value",), (FULL,)),
    (machines.first_words, ("value", "limit"), (FULL, 20)),
    (machines.is_endless, ("value",), (FULL,)),
    (machines.how_many, ("value", "length"), (FULL, 9)),
    (machines.unlike, ("one", "other"), (FULL, ONE)),
)


def only_plain(value):
    """Whether the value has plain tuples, strings, integers and the like at every level."""
    if type(value) is tuple:
        return all(map(only_plain, value))
    return type(value) in (int, bool, str, type(None))


class TestArguments(unittest.TestCase):
    def test_by_position_and_by_name(self):
        for call, names, given in CALLS:
            self.assertEqual(tuple(inspect.signature(call).parameters), names)
            result = call(*given)
            self.assertEqual(call(**dict(zip(names, given))), result)
            self.assertEqual(call(**dict(zip(names[::-1], given[::-1]))), result)

    def test_lists_and_tuples_are_the_same(self):
        rng = random.Random(19)
        for call, _, given in CALLS:
            result = call(*given)
            self.assertEqual(call(*[reference.lists(part) for part in given]), result)
            for _ in range(10):
                self.assertEqual(call(*[reference.mixed(part, rng) for part in given]), result)

    def test_equal_calls_return_equal_values(self):
        for call, _, given in CALLS:
            self.assertEqual(call(*given), call(*copy.deepcopy(given)))

    def test_what_is_passed_stays_as_it_is(self):
        for call, _, given in CALLS:
            passed = [reference.lists(part) for part in given]
            before = copy.deepcopy(passed)
            call(*passed)
            self.assertEqual(passed, before)

    def test_what_is_passed_stays_as_it_is_behind_an_error(self):
        for call, names, given in CALLS:
            for wrong in odd_values():
                for at in range(len(names)):
                    passed = [reference.lists(part) for part in given]
                    passed[at] = copy.deepcopy(wrong)
                    before = copy.deepcopy(passed)
                    try:
                        call(*passed)
                    except StemError:
                        pass
                    self.assertEqual(passed, before)

    def test_any_value_gets_the_described_error(self):
        for call, names, given in CALLS:
            if call is books.is_book:
                continue
            for wrong in odd_values():
                for at in range(len(names)):
                    passed = list(given)
                    passed[at] = wrong
                    no_stem = call is books.forms and at == 1
                    with self.assertRaises(errors.NoStem if no_stem else errors.BadValue) as held:
                        call(*passed)
                    if no_stem:
                        self.assertIs(held.exception.word, wrong)
                    else:
                        self.assertEqual(held.exception.at, at)

    def test_true_is_no_integer(self):
        for number in (True, False):
            for call in (machines.first_words, machines.how_many):
                with self.assertRaises(errors.BadValue) as held:
                    call(ONE, number)
                self.assertEqual(held.exception.at, 1)
        affix = ("suf", 1, "", "d", "", True)
        self.assertTrue(books.is_book(((affix,), (), ())))
        self.assertFalse(books.is_book(((affix[:1] + (True,) + affix[2:],), (), ())))
        self.assertFalse(books.is_book(((affix[:5] + (1,),), (), ())))
        self.assertFalse(books.is_book(((), (("a", (True,)),), ())))


class TestReturned(unittest.TestCase):
    def test_plain_at_every_level(self):
        for call, _, given in CALLS:
            result = call(*[reference.lists(part) for part in given])
            self.assertTrue(only_plain(result), call)

    def test_whether(self):
        for value in (EMPTY, ONE, None):
            self.assertIn(type(books.is_book(value)), (bool,))
        for value in (EMPTY, ONE, LARGEST):
            self.assertIs(type(machines.is_endless(value)), bool)
            self.assertIs(type(books.spells(value, "ab")), bool)
            self.assertIs(type(books.spells(value, "fcfc")), bool)
            self.assertIs(type(machines.how_many(value, 3)), int)

    def test_later_changes_have_no_effect(self):
        for call, _, given in CALLS:
            passed = [reference.lists(part) for part in given]
            result = call(*passed)
            before = copy.deepcopy(result)
            for part in passed:
                if isinstance(part, list):
                    for inner in part:
                        inner.clear()
                    part.clear()
            self.assertEqual(result, before)

    def test_what_is_returned_may_be_passed(self):
        for value in (machines.machine(FULL), books.ways(FULL, "fcabfc"), machines.unlike(FULL, ONE)):
            self.assertIs(books.is_book(value), False)
            for call, names, given in CALLS[1:]:
                with self.assertRaises(errors.BadValue) as held:
                    call(value, *given[1:])
                self.assertEqual(held.exception.at, 0)


class TestInterface(unittest.TestCase):
    def test_everything_stands_in_its_own_file(self):
        for call, _, _ in CALLS:
            module = "stemsure.books" if call in (books.is_book, books.forms, books.spells, books.ways) else None
            self.assertEqual(call.__module__, module or "stemsure.machines")
