"""[35] to [37], [8]: spellers, which learn and forget."""

import copy
import random
import unittest

from stemsure.books import is_book, spells
from stemsure.errors import BadValue, NoStem, StemError, TakenStem, TooMany
from stemsure.nearby import near
from stemsure.spellers import Speller
from tests import reference
from tests.samples import EMPTY, FULL, LARGEST, ONE, odd_values

EIGHT = ((), tuple((word, ()) for word in ("a", "b", "c", "d", "e", "f", "aa", "ab")), ())
FIVE = ((), (), ("b", "d", "aa", "ab", "ffffffff"))


class Checks(unittest.TestCase):
    def refuses(self, speller, kind, what, call, *given):
        """The call raises this kind of error, which keeps what it shall, and changes nothing."""
        before = speller.whole()
        with self.assertRaises(StemError) as held:
            call(*given)
        error = held.exception
        self.assertIs(type(error), kind)
        if kind is BadValue:
            self.assertEqual((error.at, type(error.at)), (what, int))
        elif kind is not TooMany:
            self.assertIs(error.word, what)
        self.assertEqual(speller.whole(), before)

    def keeps(self, speller, value):
        self.assertEqual(speller.whole(), value)
        self.assertEqual(speller, Speller(value))
        self.assertTrue(is_book(speller.whole()))


class TestQuestions(Checks):
    def test_whole(self):
        for value in (EMPTY, ONE, FULL, LARGEST):
            self.assertEqual(Speller(value).whole(), value)
            self.assertEqual(Speller(reference.lists(value)).whole(), value)
            self.assertEqual(Speller(value=value).whole(), value)

    def test_no_book(self):
        for value in odd_values() + [Speller(ONE), ONE[:2], (ONE[0], ONE[1][::-1], ()), [ONE]]:
            with self.assertRaises(BadValue) as held:
                Speller(value)
            self.assertEqual(held.exception.at, 0)

    def test_spells(self):
        for value in (EMPTY, ONE, FULL):
            speller = Speller(value)
            for word in ("ab", "abd", "cab", "abab", "a", "fcfc", "fcabfc", "b", "ab" * 20):
                self.assertIs(speller.spells(word), spells(value, word))
                self.assertIs(speller.spells(word=word), spells(value, word))
            for word in ["a" * 41, "g", "", ["ab"]] + odd_values():
                self.refuses(speller, BadValue, 0, speller.spells, word)

    def test_near(self):
        for value in (EMPTY, ONE, FULL):
            speller = Speller(value)
            for text in ("", "ab", "bad", "fcabfc", "abcdefabcd"):
                for most in range(3):
                    self.assertEqual(speller.near(text, most, 7), near(value, text, most, 7))
            self.assertEqual(speller.near(limit=40, most=2, text="ab"), near(value, "ab", 2, 40))
            for text in ["a" * 11, "g"] + odd_values():
                if text != "":
                    self.refuses(speller, BadValue, 0, speller.near, text, 2, 40)
                    self.refuses(speller, BadValue, 0, speller.near, text, None, None)
            for wrong in [-1, 3, True, "1"] + odd_values():
                self.refuses(speller, BadValue, 1, speller.near, "ab", wrong, 40)
                self.refuses(speller, BadValue, 1, speller.near, "ab", wrong, 41)
            for wrong in [-1, 41, True, "1"] + odd_values():
                self.refuses(speller, BadValue, 2, speller.near, "ab", 1, wrong)

    def test_questions_change_nothing(self):
        speller = Speller(FULL)
        speller.whole(), speller.spells("ab"), speller.near("ab", 2, 40), speller.copy(), speller == speller
        self.keeps(speller, FULL)

    def test_what_is_returned_is_plain(self):
        whole = Speller(reference.lists(FULL)).whole()
        for part in (whole, whole[0], whole[0][0], whole[1], whole[1][1], whole[1][1][1], whole[2]):
            self.assertIs(type(part), tuple)


class TestEqual(Checks):
    def test_equal_books(self):
        for value in (EMPTY, ONE, FULL):
            self.assertTrue(Speller(value) == Speller(reference.lists(value)))
            self.assertFalse(Speller(value) != Speller(value))

    def test_books_with_the_same_words_that_differ(self):
        same = (
            ((), (("a", ()), ("ab", ())), ()),
            ((), (("a", ()), ("ab", ())), ("b",)),
            ((), (("a", (0,)), ("ab", ())), ()),
            ((("suf", 0, "", "b", "", True),), (("a", (0,)),), ()),
            ((("suf", 0, "", "b", "", False),), (("a", (0,)),), ()),
            ((("suf", 1, "", "b", "", True),), (("a", (1,)),), ()),
        )
        for one in same:
            for other in same:
                self.assertIs(Speller(one) == Speller(other), one is other)
                self.assertIs(Speller(one) != Speller(other), one is not other)

    def test_affixes_in_another_sequence(self):
        other = (FULL[0][::-1],) + FULL[1:]
        self.assertFalse(Speller(FULL) == Speller(other))

    def test_other_values(self):
        speller = Speller(EMPTY)
        for value in odd_values() + [EMPTY, [[], [], []], 0, 1, Speller]:
            self.assertIs(speller == value, False)
            self.assertIs(value == speller, False)
            self.assertIs(speller != value, True)
            self.assertIs(speller.__eq__(value), False)

    def test_equal_after_calls(self):
        one, other = Speller(EMPTY), Speller(EMPTY)
        one.learn("a", None)
        self.assertFalse(one == other)
        other.learn("a", None)
        self.assertTrue(one == other)
        one.forbid("b")
        other.forbid("c")
        self.assertFalse(one == other)
        one.allow("b")
        other.allow("c")
        self.assertTrue(one == other)


class TestCopy(Checks):
    def test_copies_change_independently(self):
        speller = Speller(ONE)
        other = speller.copy()
        self.assertIs(type(other), Speller)
        self.assertEqual(other, speller)
        other.learn("a", "ab")
        other.forbid("cab")
        self.keeps(speller, ONE)
        self.keeps(other, (ONE[0], (("a", (0, 8)),) + ONE[1], ("cab",)))
        speller.forget("cab")
        self.keeps(speller, (ONE[0], ONE[1][:1], ()))
        self.keeps(other, (ONE[0], (("a", (0, 8)),) + ONE[1], ("cab",)))
        third = other.copy()
        other.allow("cab")
        self.keeps(third, (ONE[0], (("a", (0, 8)),) + ONE[1], ("cab",)))

    def test_what_was_passed_may_change(self):
        passed = reference.lists(FULL)
        speller = Speller(passed)
        passed[0][0][5] = False
        passed[0].pop()
        passed[1][0][1].append(8)
        passed[1].clear()
        passed[2].append("b")
        self.keeps(speller, FULL)
        self.assertEqual(speller.copy().whole(), FULL)

    def test_what_is_passed_stays_as_it_is(self):
        passed = reference.lists(FULL)
        speller = Speller(passed)
        speller.forget("a")
        speller.learn("ff", "cab")
        speller.allow("a")
        speller.forbid("b")
        self.assertEqual(passed, reference.lists(FULL))


class TestLearn(Checks):
    def test_without_flags(self):
        speller = Speller(EMPTY)
        self.assertIs(speller.learn("ab", None), None)
        self.keeps(speller, ((), (("ab", ()),), ()))
        self.assertIs(speller.spells("ab"), True)

    def test_like_a_stem(self):
        speller = Speller(ONE)
        self.assertIs(speller.learn(like="ab", word="f"), None)
        self.keeps(speller, (ONE[0], (("f", (0, 8)),) + ONE[1], ()))
        self.assertIs(speller.spells("fdabf"), True)
        speller.learn("dd", "cab")
        self.keeps(speller, (ONE[0], (("f", (0, 8)), ("ab", (0, 8)), ("dd", ()), ("cab", ())), ()))
        self.assertIs(speller.spells("dddd"), False)
        speller = Speller(((), (("a", tuple(range(10))),), ()))
        speller.learn("b", "a")
        self.keeps(speller, ((), (("a", tuple(range(10))), ("b", tuple(range(10)))), ()))

    def test_where_it_stands(self):
        for word in ("a", "bb", "f", "aa", "cc", "ffff", "bbbbb", "ffffff", "aaaaaa"):
            value = ((), (("b", (0,)), ("ab", (8,)), ("bbbb", (9,)), ("bbbbbb", ())), ())
            speller = Speller(value)
            speller.learn(word, "ab")
            entries = sorted(value[1] + ((word, (8,)),), key=lambda entry: reference.order(entry[0]))
            self.keeps(speller, ((), tuple(entries), ()))

    def test_bad_words(self):
        for value in (ONE, EMPTY, EIGHT):
            speller = Speller(value)
            for word in ["a" * 7, "g", "A", "a b", ["ab"], 0] + odd_values():
                for like in (None, "ab", "no", 7):
                    self.refuses(speller, BadValue, 0, speller.learn, word, like)

    def test_taken_stems(self):
        speller = Speller(EIGHT)
        for word in ("a", "f", "ab"):
            for like in (None, "a", "ab", "no stem", 7):
                self.refuses(speller, TakenStem, word, speller.learn, word, like)

    def test_no_stems(self):
        for value in (ONE, EMPTY, EIGHT):
            speller = Speller(value)
            for like in ["fe", "abd", "dd", "abc", ("ab",), ["ab"], 0, -1, True, False, ""] + odd_values():
                if like is not None:
                    self.refuses(speller, NoStem, like, speller.learn, "dd", like)

    def test_forms_are_no_stems(self):
        speller = Speller(ONE)
        self.refuses(speller, NoStem, "abd", speller.learn, "f", "abd")
        speller.learn("abd", None)
        self.keeps(speller, (ONE[0], (("ab", (0, 8)), ("abd", ()), ("cab", ())), ()))

    def test_a_ninth_entry(self):
        speller = Speller(EIGHT)
        for like in (None, "a", "ab"):
            self.refuses(speller, TooMany, None, speller.learn, "ac", like)
        speller.forget("f")
        speller.learn("ac", "a")
        self.assertEqual(len(speller.whole()[1]), 8)
        self.refuses(speller, TooMany, None, speller.learn, "f", None)

    def test_sequence_of_the_errors(self):
        speller = Speller(EIGHT)
        self.refuses(speller, BadValue, 0, speller.learn, "abcdefa", 7)
        self.refuses(speller, TakenStem, "a", speller.learn, "a", 7)
        self.refuses(speller, NoStem, 7, speller.learn, "ac", 7)
        self.refuses(speller, TooMany, None, speller.learn, "ac", None)

    def test_a_forbidden_word_is_forbidden_no_more(self):
        speller = Speller(((), (("b", (8,)),), ("a", "bb", "bbb")))
        speller.learn("a", None)
        self.keeps(speller, ((), (("a", ()), ("b", (8,))), ("bb", "bbb")))
        speller.learn("bb", "b")
        self.keeps(speller, ((), (("a", ()), ("b", (8,)), ("bb", (8,))), ("bbb",)))
        self.assertIs(speller.spells("bb"), True)
        self.assertIs(speller.spells("bbb"), False)

    def test_a_refused_one_stays_forbidden(self):
        value = (EIGHT[0], EIGHT[1], ("a", "ac"))
        speller = Speller(value)
        self.refuses(speller, TooMany, None, speller.learn, "ac", None)
        self.refuses(speller, TakenStem, "a", speller.learn, "a", None)
        speller = Speller(((), (), ("ac",)))
        self.refuses(speller, NoStem, "a", speller.learn, "ac", "a")

    def test_a_form_that_was_forbidden_stays_so(self):
        speller = Speller((ONE[0], ONE[1], ("fd",)))
        speller.learn("f", "ab")
        self.assertEqual(speller.whole()[2], ("fd",))
        self.assertIs(speller.spells("fd"), False)
        self.assertIs(speller.spells("fdf"), True)


class TestForget(Checks):
    def test_each_entry(self):
        for at, (stem, _) in enumerate(FULL[1]):
            speller = Speller(FULL)
            self.assertIs(speller.forget(stem), None)
            self.keeps(speller, (FULL[0], FULL[1][:at] + FULL[1][at + 1:], FULL[2]))
            self.refuses(speller, NoStem, stem, speller.forget, stem)

    def test_the_last_one(self):
        speller = Speller(((), (("a", ()),), ("a",)))
        speller.forget(word="a")
        self.keeps(speller, ((), (), ("a",)))

    def test_no_stems(self):
        for value in (FULL, EMPTY):
            speller = Speller(value)
            for word in ["aa", "abd", "g", "abcdefabcdef", ("ab",), ["ab"], 0] + odd_values():
                self.refuses(speller, NoStem, word, speller.forget, word)

    def test_words_are_gone(self):
        speller = Speller(ONE)
        speller.forget("ab")
        self.assertEqual([speller.spells(word) for word in ("ab", "abd", "abab", "cab")], [False] * 3 + [True])
        speller.forget("cab")
        self.assertIs(speller.spells("cab"), False)


class TestForbid(Checks):
    def test_where_it_stands(self):
        for word in ("a", "b", "cc", "f", "aa", "ffff", "aaaaaaaa", "ffffffff"):
            speller = Speller(((), (("a", (8,)),), ("ab", "bbb", "bbbbbb", "cccccccc")))
            self.assertIs(speller.forbid(word), None)
            words = tuple(sorted(("ab", "bbb", "bbbbbb", "cccccccc", word), key=reference.order))
            self.keeps(speller, ((), (("a", (8,)),), words))
            self.assertIs(speller.spells(word), False)

    def test_a_stem_stays_one(self):
        speller = Speller(ONE)
        speller.forbid("ab")
        self.keeps(speller, ONE[:2] + (("ab",),))
        self.assertIs(speller.spells("ab"), False)
        self.assertIs(speller.spells("abab"), True)
        self.refuses(speller, TakenStem, "ab", speller.learn, "ab", None)

    def test_a_forbidden_one_again(self):
        speller = Speller(FIVE)
        for word in FIVE[2]:
            self.assertIs(speller.forbid(word), None)
            self.keeps(speller, FIVE)
        speller = Speller(((), (), ("b",)))
        speller.forbid(word="b")
        self.keeps(speller, ((), (), ("b",)))

    def test_a_sixth_one(self):
        speller = Speller(FIVE)
        for word in ("a", "ba", "aaaaaaaa"):
            self.refuses(speller, TooMany, None, speller.forbid, word)
        speller.allow("aa")
        speller.forbid("a")
        self.keeps(speller, ((), (), ("a", "b", "d", "ab", "ffffffff")))

    def test_bad_words(self):
        for value in (FIVE, EMPTY):
            speller = Speller(value)
            for word in ["a" * 9, "g", "A", "a b", "b\n", ["b"], ("b",), 0] + odd_values():
                self.refuses(speller, BadValue, 0, speller.forbid, word)


class TestAllow(Checks):
    def test_each_word(self):
        for at, word in enumerate(FIVE[2]):
            speller = Speller(FIVE)
            self.assertIs(speller.allow(word), None)
            self.keeps(speller, ((), (), FIVE[2][:at] + FIVE[2][at + 1:]))
            self.refuses(speller, BadValue, 0, speller.allow, word)
            speller.forbid(word)
            self.keeps(speller, FIVE)

    def test_by_name(self):
        speller = Speller(FIVE)
        speller.allow(word="b")
        self.keeps(speller, ((), (), FIVE[2][1:]))

    def test_what_is_not_forbidden(self):
        for value in (FIVE, EMPTY, ONE):
            speller = Speller(value)
            for word in ["a", "abd", "cab", "aaaaaaaaa", "g", ["b"], ("b",), FIVE[2], 0] + odd_values():
                self.refuses(speller, BadValue, 0, speller.allow, word)

    def test_it_is_a_word_again(self):
        speller = Speller((ONE[0], ONE[1], ("ab", "abdab")))
        self.assertIs(speller.spells("abdab"), False)
        speller.allow("abdab")
        self.assertIs(speller.spells("abdab"), True)
        self.assertIs(speller.spells("ab"), False)


class Model:
    """A speller, told once more by the document's words."""

    def __init__(self, value):
        self.affixes, entries, forbidden = copy.deepcopy(value)
        self.entries = dict(entries)
        self.forbidden = set(forbidden)

    def whole(self):
        entries = tuple((stem, self.entries[stem]) for stem in sorted(self.entries, key=reference.order))
        return self.affixes, entries, tuple(sorted(self.forbidden, key=reference.order))

    def learn(self, word, like):
        if not reference.is_text(word, 1, 6):
            return (BadValue, 0)
        if word in self.entries:
            return (TakenStem, word)
        if like is not None and like not in self.entries:
            return (NoStem, like)
        if len(self.entries) == 8:
            return (TooMany, None)
        self.entries[word] = () if like is None else self.entries[like]
        self.forbidden -= {word}
        return None

    def forget(self, word):
        if word not in self.entries:
            return (NoStem, word)
        del self.entries[word]
        return None

    def forbid(self, word):
        if not reference.is_text(word, 1, 8):
            return (BadValue, 0)
        if word not in self.forbidden and len(self.forbidden) == 5:
            return (TooMany, None)
        self.forbidden |= {word}
        return None

    def allow(self, word):
        if word not in self.forbidden:
            return (BadValue, 0)
        self.forbidden -= {word}
        return None


class TestSequencesOfCalls(Checks):
    def drawn_word(self, rng, model, longest):
        known = sorted(model.entries) + sorted(model.forbidden)
        word = reference.drawn_text(rng, "ab", 1, longest)
        return rng.choice((word, word, rng.choice(known or [word]), "g", "", 7))

    def drawn_call(self, rng, model):
        name = rng.choice(("learn", "learn", "forget", "forbid", "forbid", "allow"))
        if name != "learn":
            return name, (self.drawn_word(rng, model, 9),)
        return name, (self.drawn_word(rng, model, 7), rng.choice((None, self.drawn_word(rng, model, 2))))

    def test_against_the_model(self):
        rng = random.Random(60)
        seen = {}
        for value in reference.drawn_books(61, 60, forbidden=5):
            speller, model = Speller(value), Model(value)
            for _ in range(60):
                name, given = self.drawn_call(rng, model)
                right = getattr(model, name)(*given)
                seen[name, right and right[0]] = True
                if right is None:
                    self.assertIs(getattr(speller, name)(*given), None)
                else:
                    self.refuses(speller, *right, getattr(speller, name), *given)
                self.assertEqual(speller.whole(), model.whole())
        self.assertEqual(len(seen), 5 + 2 + 3 + 2)

    def test_answers_as_a_new_one_with_its_book(self):
        rng = random.Random(62)
        for value in reference.drawn_books(63, 25, forbidden=5):
            speller = Speller(value)
            for _ in range(12):
                name, given = self.drawn_call(rng, Model(speller.whole()))
                try:
                    getattr(speller, name)(*given)
                except StemError:
                    pass
                new = Speller(speller.whole())
                self.assertEqual(speller, new)
                self.assertEqual(speller.copy(), new)
                known = reference.words(speller.whole(), 5)
                for word in reference.texts("ab", 5):
                    self.assertIs(speller.spells(word), word in known)
                for text in ("", "ab", "bba"):
                    found = speller.near(text, 2, 40)
                    self.assertEqual(found, new.near(text, 2, 40))
                    self.assertEqual(found, near(speller.whole(), text, 2, 40))

    def test_largest(self):
        speller = Speller(LARGEST)
        speller.forget("bbbab")
        speller.learn("a", "aaaaab")
        speller.allow("abbaab")
        speller.forbid("aaaaaaaa")
        entries = (("a", LARGEST[1][0][1]),) + LARGEST[1][1:]
        self.keeps(speller, (LARGEST[0], entries, ("bbaabb", "aaaaaaaa") + LARGEST[2][2:]))
        for text in ("abbaab", "aaaaaaaaaa"):
            self.assertEqual(speller.near(text, 2, 40), near(speller.whole(), text, 2, 40))
        self.assertIs(speller.spells("abbaab"), True)


class TestInterface(unittest.TestCase):
    def test_methods_stand_in_the_class_itself(self):
        self.assertEqual(Speller.__module__, "stemsure.spellers")
        self.assertEqual(Speller.__bases__, (object,))
        for name in ("whole", "spells", "near", "copy", "learn", "forget", "forbid", "allow", "__eq__", "__init__"):
            self.assertIn(name, vars(Speller))
