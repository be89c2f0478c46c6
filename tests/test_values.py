"""[10]: integers, sequences, arguments and returned values."""

import copy
import inspect
import random
import unittest

from stemsure import books, errors, fewest, machines, nearby, spellers, texts
from stemsure.errors import StemError
from tests import reference
from tests.reference_fewest import LARGE_TASKS
from tests.samples import EMPTY, FULL, LARGEST, ONE, odd_values

TASK = LARGE_TASKS[0]
PAPER = fewest.paper(*TASK)

# Each function with the names of its arguments, and right arguments.
CALLS = (
    (books.is_book, ("value",), (FULL,)),
    (books.forms, ("value", "stem"), (FULL, "aabaac")),
    (books.spells, ("value", "word"), (FULL, "fcabfc")),
    (books.ways, ("value", "word"), (FULL, "fcabfc")),
    (machines.machine, ("value",), (FULL,)),
    (machines.first_words, ("value", "limit"), (FULL, 20)),
    (machines.is_endless, ("value",), (FULL,)),
    (machines.how_many, ("value", "length"), (FULL, 9)),
    (machines.unlike, ("one", "other"), (FULL, ONE)),
    (nearby.distance, ("one", "other"), ("abcdef", "bacdf")),
    (nearby.near, ("value", "text", "most", "limit"), (FULL, "fcabf", 2, 9)),
    (fewest.fewest, ("affixes", "words"), TASK),
    (fewest.few, ("affixes", "words"), TASK),
    (fewest.full_entries, ("affixes", "words"), TASK),
    (fewest.paper, ("affixes", "words"), TASK),
    (fewest.paper_holds, ("affixes", "words", "bound", "text"), TASK + (7, PAPER)),
    (spellers.Speller, ("value",), (FULL,)),
    (spellers.Speller(FULL).spells, ("word",), ("fcabfc",)),
    (spellers.Speller(FULL).near, ("text", "most", "limit"), ("fcabf", 2, 9)),
    (texts.printed, ("value",), (FULL,)),
    (texts.parse, ("text",), (texts.printed(FULL),)),
)

# The methods that change a speller of a book with place for more, in the same way.
WITH_PLACE = (FULL[0], FULL[1][:-1], FULL[2][1:])
CHANGES = (
    ("learn", ("word", "like"), ("aab", "cab")),
    ("forget", ("word",), ("cab",)),
    ("forbid", ("word",), ("a",)),
    ("allow", ("word",), ("fcfc",)),
)


def described_error(call, names, at, wrong):
    """The error that is described for this argument and what it keeps, or None if it is a right one after all."""
    if call is books.is_book or wrong == "" and (call is nearby.distance or call is texts.parse):
        return None
    if wrong == "" and names[at:at + 2] == ("text", "most"):
        return None
    if names[at] == "affixes" and wrong in ([], ()) or names[at] == "words" and wrong in (["a", "b"], ("a",)):
        return None
    if names[at] == "bound" and reference.is_kind_of_int(wrong, 0, 99):
        return None
    if call is books.forms and at == 1:
        return errors.NoStem, wrong
    if call is texts.parse:
        return errors.BadText, 0
    if call is fewest.paper_holds and at == 3:
        return errors.BadPaper, 0
    return errors.BadValue, at


def only_plain(value):
    """Whether the value has plain tuples, strings, integers and the like at every level."""
    if type(value) is tuple:
        return all(map(only_plain, value))
    return type(value) in (int, bool, str, type(None))


class Checks(unittest.TestCase):
    def raises(self, kind, what, call, *passed):
        with self.assertRaises(StemError) as held:
            call(*passed)
        self.assertIs(type(held.exception), kind)
        if kind in (errors.NoStem, errors.TakenStem):
            self.assertIs(held.exception.word, what)
        else:
            self.assertEqual((held.exception.at, type(held.exception.at)), (what, int))


class TestArguments(Checks):
    def test_by_position_and_by_name(self):
        for call, names, given in CALLS:
            self.assertEqual(tuple(inspect.signature(call).parameters), names)
            result = call(*given)
            self.assertEqual(call(**dict(zip(names, given))), result)
            self.assertEqual(call(**dict(zip(names[::-1], given[::-1]))), result)

    def test_lists_and_tuples_are_the_same(self):
        rng = random.Random(19)
        for call, _, given in CALLS:
            result = call(*given)
            self.assertEqual(call(*[reference.lists(part) for part in given]), result)
            for _ in range(10):
                self.assertEqual(call(*[reference.mixed(part, rng) for part in given]), result)

    def test_equal_calls_return_equal_values(self):
        for call, _, given in CALLS:
            self.assertEqual(call(*given), call(*copy.deepcopy(given)))

    def test_what_is_passed_stays_as_it_is(self):
        for call, _, given in CALLS:
            passed = [reference.lists(part) for part in given]
            before = copy.deepcopy(passed)
            call(*passed)
            self.assertEqual(passed, before)

    def test_what_is_passed_stays_as_it_is_behind_an_error(self):
        for call, names, given in CALLS:
            for wrong in odd_values():
                for at in range(len(names)):
                    passed = [reference.lists(part) for part in given]
                    passed[at] = copy.deepcopy(wrong)
                    before = copy.deepcopy(passed)
                    try:
                        call(*passed)
                    except StemError:
                        pass
                    self.assertEqual(passed, before)

    def test_any_value_gets_the_described_error(self):
        for call, names, given in CALLS:
            for wrong in odd_values():
                for at in range(len(names)):
                    passed = list(given)
                    passed[at] = wrong
                    error = described_error(call, names, at, wrong)
                    if error is not None:
                        self.raises(*error, call, *passed)
                    elif call is not fewest.paper_holds:
                        call(*passed)

    def test_the_first_argument_that_is_wrong_counts(self):
        for call, names, given in CALLS:
            for at in range(len(names)):
                error = described_error(call, names, at, None)
                if error is not None:
                    self.raises(*error, call, *given[:at], *[None] * (len(names) - at))

    def test_methods_that_change_a_speller(self):
        for name, names, given in CHANGES:
            signature = inspect.signature(getattr(spellers.Speller, name))
            self.assertEqual(tuple(signature.parameters)[1:], names)
            one, other = spellers.Speller(WITH_PLACE), spellers.Speller(WITH_PLACE)
            self.assertIs(getattr(one, name)(*given), None)
            self.assertIs(getattr(other, name)(**dict(zip(names[::-1], given[::-1]))), None)
            self.assertEqual(one, other)
            for wrong in odd_values():
                for at in range(len(names)):
                    passed = list(given)
                    passed[at] = copy.deepcopy(wrong)
                    # After a call that was not refused each is: the word is taken, or like is no stem.
                    with self.assertRaises(StemError):
                        getattr(one, name)(*passed)
                    self.assertEqual(passed[at], wrong)
            self.assertEqual(one, other)

    def test_true_is_no_integer(self):
        for number in (True, False):
            for call in (machines.first_words, machines.how_many):
                self.raises(errors.BadValue, 1, call, ONE, number)
            self.raises(errors.BadValue, 2, nearby.near, ONE, "ab", number, 1)
            self.raises(errors.BadValue, 3, nearby.near, ONE, "ab", 1, number)
            self.raises(errors.BadValue, 2, fewest.paper_holds, (), ("a",), number, "apart 0")
        affix = ("suf", 1, "", "d", "", True)
        self.assertTrue(books.is_book(((affix,), (), ())))
        self.assertFalse(books.is_book(((affix[:1] + (True,) + affix[2:],), (), ())))
        self.assertFalse(books.is_book(((affix[:5] + (1,),), (), ())))
        self.assertFalse(books.is_book(((), (("a", (True,)),), ())))


class TestReturned(Checks):
    def test_plain_at_every_level(self):
        for call, _, given in CALLS:
            result = call(*[reference.lists(part) for part in given])
            result = result.whole() if isinstance(result, spellers.Speller) else result
            self.assertTrue(only_plain(result), call)

    def test_whether(self):
        for value in (EMPTY, ONE, None):
            self.assertIn(type(books.is_book(value)), (bool,))
        for value in (EMPTY, ONE, LARGEST):
            self.assertIs(type(machines.is_endless(value)), bool)
            self.assertIs(type(books.spells(value, "ab")), bool)
            self.assertIs(type(books.spells(value, "fcfc")), bool)
            self.assertIs(type(machines.how_many(value, 3)), int)

    def test_later_changes_have_no_effect(self):
        for call, _, given in CALLS:
            passed = [reference.lists(part) for part in given]
            result = call(*passed)
            before = copy.deepcopy(result)
            for part in passed:
                if isinstance(part, list):
                    for inner in part:
                        if isinstance(inner, list):
                            inner.clear()
                    part.clear()
            self.assertEqual(result, before)

    def test_what_is_returned_may_be_passed(self):
        for value in (machines.machine(FULL), books.ways(FULL, "fcabfc"), machines.unlike(FULL, ONE)):
            self.assertIs(books.is_book(value), False)
            for call, names, given in CALLS[1:]:
                self.raises(*described_error(call, names, 0, value), call, value, *given[1:])


class TestInterface(unittest.TestCase):
    WHERE = {
        books: "is_book forms spells ways",
        machines: "machine first_words is_endless how_many unlike",
        nearby: "distance near",
        fewest: "fewest few full_entries paper paper_holds",
        spellers: "Speller",
        texts: "printed parse",
    }

    def test_everything_stands_in_its_own_file(self):
        for module, names in self.WHERE.items():
            for name in names.split():
                self.assertEqual(getattr(module, name).__module__, module.__name__)
                self.assertIn(getattr(module, name), [call for call, _, _ in CALLS])
