"""[11]: the errors."""

import unittest

from stemsure import errors
from stemsure.errors import BadPaper, BadText, BadValue, NoStem, StemError, TakenStem, TooMany

WITH_AT = (BadValue, BadText, BadPaper)
WITH_WORD = (NoStem, TakenStem)
ALL = WITH_AT + WITH_WORD + (TooMany,)


def thrown(error):
    try:
        raise error
    except StemError as caught:
        return caught


class TestErrors(unittest.TestCase):
    def test_bases(self):
        self.assertEqual(StemError.__bases__, (Exception,))
        for kind in ALL:
            self.assertEqual(kind.__bases__, (StemError,))
            self.assertEqual(kind.__module__, "stemsure.errors")
            self.assertIs(getattr(errors, kind.__name__), kind)

    def test_at_by_place_and_by_name(self):
        for kind in WITH_AT:
            for at in (0, 1, 3, 99, 10 ** 30, -10 ** 30, "ab", None):
                self.assertIs(thrown(kind(at)).at, at)
                self.assertIs(thrown(kind(at=at)).at, at)

    def test_word_by_place_and_by_name(self):
        for kind in WITH_WORD:
            for word in ("ab", "", None, 7, True, 10 ** 30, ["ab", []], ("a", (0,)), [[[]]]):
                self.assertIs(thrown(kind(word)).word, word)
                self.assertIs(thrown(kind(word=word)).word, word)

    def test_the_thing_passed_is_kept_itself(self):
        word = ["ab"]
        error = NoStem(word)
        word.append("c")
        self.assertIs(error.word, word)
        self.assertEqual(error.word, ["ab", "c"])

    def test_too_many_takes_nothing(self):
        self.assertIsInstance(thrown(TooMany()), TooMany)

    def test_caught_by_its_own_class_and_the_bases_alone(self):
        made = [kind(0) for kind in WITH_AT] + [kind("ab") for kind in WITH_WORD] + [TooMany()]
        for error in made:
            for kind in (type(error), StemError, Exception):
                with self.assertRaises(kind):
                    raise error
            for kind in ALL + (ValueError, TypeError, LookupError):
                self.assertEqual(isinstance(error, kind), kind is type(error))
            for kind in ALL:
                if kind is not type(error):
                    self.assertIs(type(self.passes_by(error, kind)), type(error))

    def passes_by(self, error, kind):
        try:
            try:
                raise error
            except kind:
                self.fail("caught by another class")
        except StemError as caught:
            return caught

    def test_base_class_itself(self):
        with self.assertRaises(StemError):
            raise StemError("some text")
        self.assertNotIsInstance(StemError(), ALL)
