"""[33], [34], [7]: papers that show that fewer entries do not do."""

import itertools
import random
import unittest

from stemsure.errors import BadPaper, BadValue
from stemsure.fewest import few, fewest, full_entries, paper, paper_holds
from tests import reference, reference_fewest
from tests.reference_fewest import LARGE_TASKS
from tests.samples import ADDING, odd_values

# Words a, b, ad, bd; full entries a with 0 and 2, b with 1 and 3, ad with 2, bd with 3.
SIMPLE = ((ADDING,), ("a", "b", "ad", "bd"))

# Words a, ac, ba, fa; full entries a with 0, 2 and 3, a with 0 and 1, ac, ba, fa.
FORKED = (
    (("pre", 0, "", "b", "", True), ("pre", 0, "", "f", "", True), ("suf", 1, "", "c", "", True)),
    ("a", "ac", "ba", "fa"),
)


def tasks():
    return itertools.chain(
        (SIMPLE, FORKED), LARGE_TASKS, reference_fewest.drawn_tasks(40, 60),
        reference_fewest.drawn_tasks(41, 30, letters="a", affixes=6, words=6, longest=6),
    )


class Checks(unittest.TestCase):
    def holds(self, task, bound, *lines):
        text = "\n".join(lines)
        self.assertIs(paper_holds(*task, bound, text), True)
        self.assertIs(paper_holds(*task, bound, text + "\n"), True)
        self.assertIs(reference_fewest.wrong_line(*task, bound, text), None)

    def wrong_text(self, task, bound, at, text):
        with self.assertRaises(BadPaper) as held:
            paper_holds(*task, bound, text)
        self.assertEqual(held.exception.at, at, text)
        self.assertIs(type(held.exception.at), int)
        self.assertEqual(reference_fewest.wrong_line(*task, bound, text), at)

    def wrong(self, task, bound, at, *lines):
        self.wrong_text(task, bound, at, "\n".join(lines))
        if lines:
            self.wrong_text(task, bound, at, "\n".join(lines) + "\n")

    def is_like_the_reference(self, task, bound, text):
        at = reference_fewest.wrong_line(*task, bound, text)
        if at is None:
            self.assertIs(paper_holds(*task, bound, text), True)
        else:
            self.wrong_text(task, bound, at, text)
        return at


class TestRightPapers(Checks):
    def test_full_entries_of_the_examples(self):
        self.assertEqual(full_entries(*SIMPLE), (("a", (0,)), ("b", (0,)), ("ad", ()), ("bd", ())))
        self.assertEqual(full_entries(*FORKED), (("a", (0,)), ("a", (1,)), ("ac", ()), ("ba", ()), ("fa", ())))
        self.assertEqual((fewest(*SIMPLE), fewest(*FORKED)), (2, 2))

    def test_apart_alone(self):
        for numbers in ("0 1", "0 3", "1 2", "2 3"):
            self.holds(SIMPLE, 2, "apart " + numbers)
        for numbers in ("", " 0", " 1", " 2", " 3"):
            self.holds(SIMPLE, 0, "apart" + numbers)
        self.holds(SIMPLE, 1, "apart 3")

    def test_words_and_apart(self):
        self.holds(SIMPLE, 2, "word 0", "apart 1")
        self.holds(SIMPLE, 2, "word 0", "apart 3")
        self.holds(SIMPLE, 2, "word 2", "apart 3", "apart 0 1")
        self.holds(SIMPLE, 2, "word 2", "apart 1", "apart 0")
        self.holds(SIMPLE, 2, "word 2", "word 1", "apart", "word 0", "apart 3")

    def test_words_until_all_are_borne(self):
        self.holds(SIMPLE, 2, "word 0", "word 1", "apart")
        self.holds(SIMPLE, 2, "word 1", "word 0", "apart")
        self.holds(SIMPLE, 2, "word 3", "word 0", "apart", "word 2", "word 1", "apart", "word 0", "word 1", "apart")

    def test_a_stem_is_taken_once(self):
        # Behind a with the flag 1, a with the flag 0 is not to be had: so it is no branch of ba, and bears no two.
        self.holds(FORKED, 2, "word 1", "apart 2 3", "apart 0")
        self.holds(FORKED, 2, "word 1", "word 2", "apart 3", "apart 0")
        self.holds(FORKED, 2, "word 0", "apart 1", "apart 2 3")
        self.wrong(FORKED, 2, 0, "apart 2 3")
        self.wrong(FORKED, 2, 2, "word 1", "apart 2 3", "apart 2 3")
        self.wrong(FORKED, 2, 4, "word 1", "word 2", "apart 3", "apart 0", "apart 2")

    def test_branches_are_in_the_sequence_of_the_full_entries(self):
        # Of the branches of a, the first bears ba and fa, the second ac.
        self.holds(FORKED, 2, "word 0", "apart 1", "apart 2")
        self.wrong(FORKED, 2, 1, "word 0", "apart 2", "apart 1")
        self.wrong(FORKED, 2, 2, "word 0", "apart 1", "apart 1")

    def test_each_branch_has_its_own_behind_it(self):
        self.holds(FORKED, 2, "word 2", "word 1", "apart", "word 0", "apart 1", "apart 3")
        self.wrong(FORKED, 2, 2, "word 2", "word 1", "word 0", "apart", "apart 1", "apart 3")

    def test_two_digits_are_too_many(self):
        affixes, words = LARGE_TASKS[3]
        self.holds((affixes, words), 10, "apart 0 1 2 3 4 5 6 7 8 9")
        self.wrong((affixes, words), 10, 0, "apart 0 1 2 3 4 5 6 7 8 9 10")
        self.wrong((affixes, words), 0, 0, "word 10")
        self.holds((affixes, words), 1, "word 9", "apart")


class TestWrongPapers(Checks):
    def test_lines_too_many_and_too_few(self):
        self.wrong(SIMPLE, 2, 1, "apart 0 1", "apart 0 1")
        self.wrong(SIMPLE, 2, 1, "apart 0 1", "", "")
        self.wrong(SIMPLE, 2, 1, "apart 0 1", "x", "y")
        self.wrong(SIMPLE, 2, 2, "word 0", "apart 1", "apart 1")
        self.wrong(SIMPLE, 2, 1, "word 0")
        self.wrong(SIMPLE, 0, 1, "word 0")
        self.wrong(SIMPLE, 2, 2, "word 2", "apart 3")
        self.wrong(SIMPLE, 2, 2, "word 2", "word 1")
        self.wrong(SIMPLE, 2, 3, "word 2", "word 1", "apart")

    def test_no_lines(self):
        for bound in (0, 2, 99):
            self.wrong_text(SIMPLE, bound, 0, "")
            self.wrong_text(SIMPLE, bound, 0, "\n")
            self.wrong_text(SIMPLE, bound, 0, "\n\n\n")
            self.wrong_text(SIMPLE, bound, 0, "\napart\n")
        self.wrong_text(SIMPLE, 2, 1, "apart 0 1\n\n")
        self.wrong_text(SIMPLE, 2, 1, "word 0\n\napart 1\n")

    def test_no_string(self):
        for text in odd_values() + [["apart 0 1"], ("word 0", "apart 1"), 0, b"apart"]:
            if not isinstance(text, str):
                self.wrong_text(SIMPLE, 2, 0, text)
        self.wrong_text(SIMPLE, 0, 0, None)

    def test_lines_that_are_not_of_the_form(self):
        for line in (
            "word", "word ", "word 0 1", "word 0 ", " word 0", "word  0", "word 00", "word 01", "word -0", "word +0",
            "word 0.", "word a", "word 0,1", "Word 0", "words 0", "wor 0", "word\t0", "0", "0 word", "word word 0",
            "word 4", "word 10", "word -1", "word 99999999999999999999999", "word " + "1" * 19000,
            "apart ", " apart", "apart  0", "apart 0  1", "apart 0 1 ", "apart 00", "apart 0 01", "Apart", "aparts 0",
            "apart 4", "apart 0 4", "apart 0,1", "apart a", "apart 0 word 1", "apart apart", "", " ", "  ", "-", "none",
            "apart 1 0", "apart 3 2", "apart 0 0", "apart 1 1", "apart 0 1 1", "apart 0 2", "apart 1 3", "apart 0 1 2",
            "apart 0 1 2 3", "apart " + " ".join(["0"] * 9000),
        ):
            for bound in (0, 1, 2, 99):
                self.wrong_text(SIMPLE, bound, 0, line)
                self.wrong_text(SIMPLE, bound, 0, line + "\n")
                self.wrong(SIMPLE, bound, 0, line, "apart 1")
            self.wrong(SIMPLE, 1, 1, "word 1", line, "apart 1")

    def test_words_that_a_taken_entry_bears(self):
        self.wrong(SIMPLE, 2, 1, "word 0", "apart 0")
        self.wrong(SIMPLE, 2, 1, "word 0", "apart 2")
        self.wrong(SIMPLE, 2, 1, "word 0", "apart 1 2")
        self.wrong(SIMPLE, 2, 1, "word 0", "word 0")
        self.wrong(SIMPLE, 2, 1, "word 0", "word 2")
        self.wrong(SIMPLE, 2, 2, "word 0", "word 1", "apart 0")
        self.wrong(SIMPLE, 2, 2, "word 0", "word 1", "word 0")
        self.wrong(SIMPLE, 2, 2, "word 2", "apart 3", "apart 2")

    def test_fewer_than_the_bound(self):
        self.wrong(SIMPLE, 3, 0, "apart 0 1")
        self.wrong(SIMPLE, 2, 0, "apart 0")
        self.wrong(SIMPLE, 1, 0, "apart")
        self.wrong(SIMPLE, 2, 1, "word 0", "apart")
        self.wrong(SIMPLE, 3, 2, "word 0", "word 1", "apart")
        self.wrong(SIMPLE, 2, 2, "word 2", "apart 3", "apart")
        self.wrong(SIMPLE, 3, 1, "word 2", "apart 3", "apart 0 1")
        self.wrong(SIMPLE, 3, 1, "word 2", "apart 3", "x")

    def test_the_first_wrong_line_counts(self):
        self.wrong(SIMPLE, 2, 1, "word 2", "x", "y")
        self.wrong(SIMPLE, 2, 0, "x", "apart")
        self.wrong(SIMPLE, 2, 2, "word 2", "apart 3", "apart 2", "apart 2")

    def test_changed_papers(self):
        rng = random.Random(42)
        seen = {True: 0, False: 0}
        for task in tasks():
            bound = fewest(*task)
            texts = [paper(*task)]
            if len(task[1]) < 8:
                texts += [reference_fewest.any_paper(*task, rng, stop) for stop in (0, 0.2, 0.5)]
            for text in texts:
                for changed in rng.sample(list(self.changes(text, rng)), 25):
                    for limit in (bound, rng.randint(0, bound), bound + 1):
                        seen[self.is_like_the_reference(task, limit, changed) is None] += 1
        self.assertGreater(seen[True], 500)
        self.assertGreater(seen[False], 5000)

    def changes(self, text, rng):
        lines = text.split("\n")[:-1]
        yield from (text, text[:-1], text + "\n", "\n" + text, text + "apart\n", text + text, text + " ", " " + text)
        for _ in range(30):
            at, other = rng.randrange(len(lines)), rng.randrange(len(lines))
            kind, *numbers = lines[at].split(" ")
            some = str(rng.randrange(10))
            if numbers:
                yield self.put(lines, at, " ".join([kind] + [some] + numbers[1:]))
                yield self.put(lines, at, " ".join([kind] + numbers[:-1] + [some]))
                yield self.put(lines, at, " ".join([kind] + numbers[::-1]))
                yield self.put(lines, at, " ".join([kind] + numbers[:-1]))
                yield self.put(lines, at, " ".join([kind] + numbers + [numbers[-1]]))
                yield self.put(lines, at, " ".join([kind, "0" + numbers[0]] + numbers[1:]))
                yield self.put(lines, at, lines[at].replace(" ", "  ", 1))
            yield self.put(lines, at, " ".join([kind] + sorted(numbers + [some])))
            yield self.put(lines, at, lines[at].replace(kind, {"word": "apart"}.get(kind, "word")))
            yield self.put(lines, at, rng.choice(("", " ", "apart", "word 0", lines[at] + " ", " " + lines[at])))
            yield "\n".join(lines[:at] + lines[at + 1:])
            yield "\n".join(lines[:at + 1] + lines[at:])
            swapped = list(lines)
            swapped[at], swapped[other] = swapped[other], swapped[at]
            yield "\n".join(swapped)
            yield "\n".join(lines[:at])

    def put(self, lines, at, line):
        return "\n".join(lines[:at] + [line] + lines[at + 1:]) + "\n"


class TestGuarantee(Checks):
    def test_the_paper_holds_for_fewest_and_below(self):
        for task in tasks():
            text = paper(*task)
            self.assertIs(type(text), str)
            for bound in range(fewest(*task) + 1):
                self.assertIs(paper_holds(*task, bound, text), True)
                self.assertIs(reference_fewest.wrong_line(*task, bound, text), None)

    def test_no_paper_holds_for_more(self):
        rng = random.Random(43)
        for task in tasks():
            texts = [paper(*task)]
            if len(task[1]) < 8:
                texts += [reference_fewest.any_paper(*task, rng, stop) for stop in (0, 0, 0.1, 0.3)]
            for text in texts:
                for bound in (fewest(*task) + 1, 11, 98, 99):
                    with self.assertRaises(BadPaper):
                        paper_holds(*task, bound, text)

    def test_papers_made_of_words_alone_hold(self):
        rng = random.Random(44)
        for task in tasks():
            if len(task[1]) < 8:
                self.assertIs(paper_holds(*task, fewest(*task), reference_fewest.any_paper(*task, rng, 0)), True)

    def test_as_many_as_few(self):
        for task in tasks():
            self.assertIs(paper_holds(*task, len(few(*task)), paper(*task)), True)

    def test_papers_of_the_largest_tasks(self):
        for task in LARGE_TASKS[:3]:
            many = paper(*task).count("\n")
            self.assertLess(many, 1000)
        self.assertGreater(paper(*LARGE_TASKS[0]).count("\n"), 10)

    def test_a_very_long_paper(self):
        task = LARGE_TASKS[2]
        text = reference_fewest.any_paper(*task, random.Random(45), 0)
        self.assertGreater(text.count("\n"), 100)
        self.assertIs(paper_holds(*task, fewest(*task), text), True)
        with self.assertRaises(BadPaper):
            paper_holds(*task, fewest(*task) + 1, text)


class TestArguments(Checks):
    def bad_value(self, at, *given, **named):
        with self.assertRaises(BadValue) as held:
            paper_holds(*given, **named)
        self.assertEqual(held.exception.at, at)

    def test_bounds(self):
        for bound in [-1, 100, 10 ** 30, "2", (2,), [2], 2.0] + odd_values():
            if not reference.is_kind_of_int(bound, 0, 99):
                for text in ("apart 0 1", "", None):
                    self.bad_value(2, *SIMPLE, bound, text)
        self.holds(SIMPLE, 0, "apart")
        self.wrong(SIMPLE, 99, 0, "apart 0 1")
        for bound in range(3):
            self.holds(SIMPLE, bound, "apart 0 1")
        for bound in range(3, 100):
            self.wrong(SIMPLE, bound, 0, "apart 0 1")

    def test_sequence_of_the_errors(self):
        affixes, words = SIMPLE
        self.bad_value(0, None, None, None, None)
        self.bad_value(1, affixes, None, None, None)
        self.bad_value(2, affixes, words, None, None)
        self.bad_value(0, None, words, 2, "apart 0 1")
        self.bad_value(1, affixes, words + words, 2, "apart 0 1")
        self.bad_value(2, affixes, words, True, "apart 0 1")
        self.wrong_text(SIMPLE, 2, 0, None)

    def test_by_name(self):
        affixes, words = SIMPLE
        self.assertIs(paper_holds(text="apart 0 1", bound=2, words=words, affixes=affixes), True)
        self.bad_value(2, text="apart 0 1", bound=None, words=words, affixes=affixes)

    def test_other_order_of_words(self):
        affixes, words = SIMPLE
        self.holds((affixes, words[::-1]), 2, "word 2", "apart 3", "apart 0 1")
        self.holds(([list(affix) for affix in affixes], list(words)), 2, "word 2", "apart 3", "apart 0 1")
