"""[38], [39], [9]: the text of a book."""

import random
import unittest

from stemsure.books import is_book
from stemsure.errors import BadText, BadValue
from stemsure.texts import parse, printed
from tests import reference
from tests.samples import ADDING, EMPTY, FULL, LARGEST, ONE, odd_values

FULL_TEXT = """affix pre 0 - b - yes
affix pre 3 a - ab yes
affix suf 0 - dd abc no
affix suf 0 c - - yes
affix suf 5 ab c abcdef yes
affix suf 7 ba ff a no
entry a
entry b 0 9
entry ab 0 8
entry fc 0 3 8 9
entry cab 0 5
entry dabac 7
entry aabaac 0 3 5 7 8
entry fedcba 0 1 2 3 4 5 6 7 8
forbid a
forbid fcfc
forbid aabaacd
forbid abababab
forbid fcfcfcfc
"""


class Checks(unittest.TestCase):
    def wrong(self, at, text):
        with self.assertRaises(BadText) as held:
            parse(text)
        self.assertEqual(held.exception.at, at, text)
        self.assertIs(type(held.exception.at), int)

    def wrong_lines(self, at, *lines):
        text = "\n".join(lines)
        if lines[-1] != "":
            self.wrong(at, text)
        self.wrong(at, text + "\n")

    def right(self, value, *lines):
        text = "".join(line + "\n" for line in lines)
        self.assertEqual(parse(text), value)
        self.assertEqual(printed(value), text)
        if lines:
            self.assertEqual(parse(text[:-1]), value)


class TestPrinted(Checks):
    def test_examples(self):
        self.assertEqual(printed(ONE), "affix suf 0 - d - yes\nentry ab 0 8\nentry cab\n")
        self.assertEqual(printed(EMPTY), "")
        self.assertEqual(printed(FULL), FULL_TEXT)

    def test_lists(self):
        self.assertEqual(printed(reference.lists(FULL)), FULL_TEXT)
        self.assertEqual(printed(value=[[], [], []]), "")

    def test_no_book(self):
        for value in odd_values() + [FULL_TEXT, FULL[:2], (FULL[0], FULL[1][::-1], FULL[2]), ONE[0], [ONE]]:
            with self.assertRaises(BadValue) as held:
                printed(value)
            self.assertEqual(held.exception.at, 0)


class TestParse(Checks):
    def test_examples(self):
        self.right(ONE, "affix suf 0 - d - yes", "entry ab 0 8", "entry cab")
        self.right(FULL, *FULL_TEXT.split("\n")[:-1])

    def test_parts(self):
        self.right(((), (), ("b",)), "forbid b")
        self.right(((), (("a", ()),), ()), "entry a")
        self.right(((), (("a", tuple(range(10))),), ("aaaaaaaa",)), "entry a 0 1 2 3 4 5 6 7 8 9", "forbid aaaaaaaa")
        self.right(((("pre", 7, "ab", "", "", False),), (), ()), "affix pre 7 ab - - no")
        self.right(((("suf", 0, "", "f", "abcdef", True),), (), ("a",)), "affix suf 0 - f abcdef yes", "forbid a")
        two = (("suf", 1, "", "f", "", True), ("pre", 0, "", "f", "", True))
        self.right((two, (), ()), "affix suf 1 - f - yes", "affix pre 0 - f - yes")

    def test_the_empty_text(self):
        self.assertEqual(parse(""), EMPTY)
        self.assertEqual(parse(text=""), EMPTY)

    def test_line_feeds(self):
        self.wrong(0, "\n")
        self.wrong(0, "\n\n\n")
        self.wrong(0, "\nentry a\n")
        self.wrong(1, "entry a\n\n")
        self.wrong(1, "entry a\n\nentry b\n")
        self.assertEqual(parse("entry a\nentry b"), ((), (("a", ()), ("b", ())), ()))

    def test_no_string(self):
        for text in odd_values() + [[FULL_TEXT], ["entry a"], ("entry a",), b"entry a", 0]:
            if not isinstance(text, str):
                self.wrong(0, text)

    def test_other_strings(self):
        for text in odd_values() + ["entry", "affix", "forbid", "entries a", " ", "-", "~", "entry\ta", "a", "%"]:
            if isinstance(text, str) and text != "":
                self.wrong(0, text)

    def test_what_is_returned_is_plain(self):
        self.assertIs(type(parse("")), tuple)
        for part in parse(FULL_TEXT):
            self.assertIs(type(part), tuple)
            for inner in part:
                self.assertIn(type(inner), (tuple, str))
        affixes, entries, _ = parse(FULL_TEXT)
        self.assertEqual({type(affix[5]) for affix in affixes}, {bool})
        self.assertEqual({type(flag) for _, flags in entries for flag in flags}, {int})


class TestWrongLines(Checks):
    def each_wrong(self, line, at, words):
        """The line is wrong with each of the words at this place, wherever the line stands."""
        for word in words:
            parts = line.split(" ")
            parts[at] = word
            changed = " ".join(parts)
            self.wrong_lines(0, changed)
            self.wrong_lines(0, changed, "entry a")
            if line.startswith("affix"):
                self.wrong_lines(1, "affix suf 7 - ff - yes", changed)
            elif line.startswith("entry"):
                self.wrong_lines(1, "affix suf 7 - ff - yes", changed)
                self.wrong_lines(2, "affix suf 7 - ff - yes", "entry a", changed)
            else:
                self.wrong_lines(3, "affix suf 7 - ff - yes", "entry a", "forbid a", changed, "forbid b")

    def test_affixes(self):
        line = "affix pre 3 ab cd abc yes"
        self.right(((("pre", 3, "ab", "cd", "abc", True),), (), ()), line)
        self.each_wrong(line, 0, ("", "Affix", "affixes", "-", "pre", "affix pre", "entry", "forbid"))
        self.each_wrong(line, 1, ("", "-", "Pre", "prefix", "pr", "yes", "pre suf", "p"))
        self.each_wrong(line, 2, ("", "-", "8", "9", "10", "-1", "00", "03", "3.0", "a", "True", "+3", "33", "3 3"))
        self.each_wrong(line, 3, ("", "--", "abc", "g", "A", "cd", "a b", "ab-", "0", "''", '""'))
        self.each_wrong(line, 4, ("", "--", "abc", "g", "A", "ab", "a b", "-a", "0", "''", '""'))
        self.each_wrong(line, 5, ("", "--", "ba", "aa", "abb", "abcdefg", "aabcdef", "g", "A", "a b", "0", "''"))
        self.each_wrong(line, 6, ("", "-", "Yes", "True", "1", "0", "y", "yes ", "yes yes", "no no", "noyes"))
        self.wrong_lines(0, "affix pre 3 - - abc yes")
        self.wrong_lines(0, "affix pre 3 ab cd abc")
        self.wrong_lines(0, "affix pre 3 ab cd yes")
        self.wrong_lines(0, "affix")
        self.right(((("pre", 3, "", "cd", "", False),), (), ()), "affix pre 3 - cd - no")

    def test_entries(self):
        line = "entry bcdefa 0 5 9"
        self.right(((), (("bcdefa", (0, 5, 9)),), ()), line)
        self.each_wrong(line, 0, ("", "Entry", "entries", "-", "affix", "forbid", "entry entry"))
        self.each_wrong(line, 1, ("", "-", "bcdefab", "g", "B", "0", "b c", "bcdefa-"))
        self.each_wrong(line, 2, ("", "-", "5", "6", "-1", "00", "01", "10", "a", "0 0", "0,"))
        self.each_wrong(line, 3, ("", "-", "0", "9", "10", "05", "b", "5 5", "6 5", "5 10", "5-9"))
        self.each_wrong(line, 4, ("", "-", "5", "10", "09", "99", "4", "9 ", "9 9", "9 8", "9 10"))
        self.wrong_lines(0, "entry")
        self.wrong_lines(0, "entry ")
        self.wrong_lines(0, "entry a ")
        self.wrong_lines(0, "entry 0")
        self.wrong_lines(0, "entry a 8 10")

    def test_forbidden_words(self):
        line = "forbid bcdefaaa"
        self.right(((), (), ("bcdefaaa",)), line)
        self.each_wrong(line, 0, ("", "Forbid", "forbidden", "-", "affix", "forbid forbid"))
        self.each_wrong(line, 1, ("", "-", "bcdefaaaa", "g", "B", "0", "b c", "b ", "bcd-", "b b"))
        self.wrong_lines(0, "forbid")

    def test_spaces(self):
        lines = FULL_TEXT.split("\n")[:-1]
        for at, line in enumerate(lines):
            spoilt = [" " + line, line + " ", "\t" + line, line + "\t", line.replace(" ", "\t", 1), line + " -"]
            for place in range(len(line)):
                if line[place] == " ":
                    spoilt += [line[:place] + " " + line[place:], line[:place] + line[place + 1:]]
            for changed in spoilt:
                self.wrong_lines(at, *lines[:at], changed, *lines[at + 1:])

    def test_kinds_out_of_sequence(self):
        affix, entry, forbid = "affix suf 0 - d - yes", "entry a", "forbid a"
        self.right(((ADDING,), (("a", ()),), ("a",)), affix, entry, forbid)
        self.wrong_lines(1, entry, affix)
        self.wrong_lines(1, forbid, affix)
        self.wrong_lines(1, forbid, entry)
        self.wrong_lines(2, affix, forbid, entry)
        self.wrong_lines(2, entry, forbid, affix)
        self.wrong_lines(2, affix, entry, affix.replace("d", "e"))
        self.wrong_lines(3, affix, entry, forbid, "entry b")

    def test_equal_ones_and_those_out_of_order(self):
        affix = "affix suf 0 - d - yes"
        self.wrong_lines(1, affix, affix)
        self.wrong_lines(2, affix, "affix suf 0 - d - no", affix)
        self.wrong_lines(1, "entry a", "entry a")
        self.wrong_lines(1, "entry a", "entry a 0")
        self.wrong_lines(1, "entry b", "entry a")
        self.wrong_lines(1, "entry aa", "entry b")
        self.right(((), (("b", ()), ("aa", ())), ()), "entry b", "entry aa")
        self.wrong_lines(1, "forbid a", "forbid a")
        self.wrong_lines(1, "forbid b", "forbid a")
        self.wrong_lines(1, "forbid aa", "forbid b")

    def test_too_many_of_a_kind(self):
        affixes = [f"affix suf {flag} - d - yes" for flag in range(7)]
        entries = [f"entry {stem}" for stem in ("a", "b", "c", "d", "e", "f", "aa", "ab", "ac")]
        words = [f"forbid {word}" for word in ("a", "b", "c", "d", "e", "f")]
        self.assertTrue(is_book(parse("\n".join(affixes[:6] + entries[:8] + words[:5]))))
        self.wrong_lines(6, *affixes)
        self.wrong_lines(6, *affixes, "entry a")
        self.wrong_lines(8, *entries)
        self.wrong_lines(14, *affixes[:6], *entries)
        self.wrong_lines(5, *words)
        self.wrong_lines(19, *affixes[:6], *entries[:8], *words)
        self.wrong(5, "\n".join(words + ["forbid " + "f" * 8] * 1000))

    def test_the_first_wrong_line_counts(self):
        lines = FULL_TEXT.split("\n")[:-1]
        for at in range(len(lines)):
            for later in range(at, len(lines)):
                changed = list(lines)
                changed[at] = "x"
                changed[later] = ""
                self.wrong(at, "\n".join(changed) + "\n")

    def test_changed_texts(self):
        rng = random.Random(50)
        seen = {True: 0, False: 0}
        for _ in range(3000):
            text = list(FULL_TEXT)
            for _ in range(rng.randint(1, 2)):
                at = rng.randrange(len(text))
                text[at:at + rng.randint(0, 1)] = rng.choice(("", "a", "f", " ", "\n", "-", "0", "8", "9", "x"))
            text = "".join(text)
            at = wrong_line(text)
            seen[at is None] += 1
            if at is None:
                self.assertEqual(printed(parse(text)), text if text.endswith("\n") else text + "\n")
            else:
                self.wrong(at, text)
        self.assertGreater(seen[True], 100)
        self.assertGreater(seen[False], 1000)


def wrong_line(text):
    """None, or the number of the first line with which the lines so far begin no text of a book: by trying out."""
    if text == "":
        return None
    lines = (text[:-1] if text.endswith("\n") else text).split("\n")
    for many in range(1, len(lines) + 1):
        value = guessed(lines[:many])
        if not reference.is_book(value) or slowly_printed(value) != "".join(line + "\n" for line in lines[:many]):
            return many - 1
    return None


def guessed(lines):
    """Some value whose text may be these lines; whether it is, is found by printing it."""
    value = ([], [], [])
    for line in lines:
        kind, *words = line.split() or [""]
        if kind == "affix" and len(words) == 6:
            side, flag, *texts, cross = words
            texts = ["" if text == "-" else text for text in texts]
            value[0].append((side, int(flag) if flag.isdigit() else -1, *texts, cross == "yes"))
        elif kind == "entry" and words:
            value[1].append((words[0], tuple(int(flag) if flag.isdigit() else -1 for flag in words[1:])))
        elif kind == "forbid" and words:
            value[2].append(words[0])
    return reference.tuples(value)


def slowly_printed(value):
    text = ""
    for side, flag, strip, add, ends, cross in value[0]:
        text += f"affix {side} {flag} {strip or '-'} {add or '-'} {ends or '-'} {'yes' if cross else 'no'}\n"
    for stem, flags in value[1]:
        text += "entry " + stem + "".join(f" {flag}" for flag in flags) + "\n"
    for word in value[2]:
        text += f"forbid {word}\n"
    return text


class TestGuarantee(Checks):
    def values(self):
        yield from (EMPTY, ONE, FULL, LARGEST)
        yield from reference.drawn_books(51, 300, letters="abcdef", affixes=6, entries=8, stem=6, forbidden=5)

    def test_parsed_again(self):
        for value in self.values():
            text = printed(value)
            self.assertEqual(text, slowly_printed(value))
            self.assertEqual(parse(text), value)
            self.assertEqual(parse(text[:-1]), value)
            self.assertEqual(parse(printed(reference.lists(value))), value)

    def test_printed_again(self):
        for value in self.values():
            text = slowly_printed(value)
            self.assertEqual(printed(parse(text)), text)
            self.assertEqual(printed(parse(text[:-1])), text)

    def test_each_beginning_is_the_text_of_a_book(self):
        lines = FULL_TEXT.split("\n")[:-1]
        for many in range(len(lines) + 1):
            text = "".join(line + "\n" for line in lines[:many])
            self.assertEqual(printed(parse(text)), text)
