"""A slow reading of section 7 of the document, independent of the package, and drawn tasks for the tests."""

import itertools
import random

from tests import reference


def forms(affixes, entry):
    return frozenset(form for _, form in reference.parts(affixes, entry))


def flag_sets(affixes):
    used = sorted({affix[1] for affix in affixes})
    return [flags for size in range(len(used) + 1) for flags in itertools.combinations(used, size)]


def right_entries(affixes, words):
    """All entries that bear nothing but words."""
    entries = [(stem, flags) for stem in words for flags in flag_sets(affixes)]
    return [entry for entry in entries if forms(affixes, entry) <= set(words)]


def full_entries(affixes, words):
    entries = right_entries(affixes, words)
    full = [
        (stem, flags)
        for stem, flags in entries
        if not any(stem == other and set(flags) < set(more) for other, more in entries)
    ]
    return tuple(sorted(full, key=lambda entry: (len(entry[0]), entry)))


def fewest(affixes, words):
    """The least number, found by a search over all sets of entries with different stems."""
    borne = {}
    for entry in right_entries(affixes, words):
        borne.setdefault(entry[0], set()).add(forms(affixes, entry))
    for many in range(1, len(words) + 1):
        for stems in itertools.combinations(words, many):
            for some in itertools.product(*[borne[stem] for stem in stems]):
                if frozenset().union(*some) == set(words):
                    return many
    raise AssertionError("stems alone do")


class Wrong(Exception):
    """A line is wrong; its argument is the number of the line."""


def wrong_line(affixes, words, bound, text):
    """None if the text is right for the bound by [33], otherwise the number that [34] tells."""
    if type(text) is not str or text == "":
        return 0
    lines = (text[:-1] if text.endswith("\n") else text).split("\n")
    full = full_entries(affixes, words)
    names = sorted(words, key=reference.order)

    def node(at, taken):
        """Reads the node that begins with this line, with all that is behind it; the number of the line behind it."""
        if at == len(lines):
            raise Wrong(at)
        known = set().union(*[forms(affixes, entry) for entry in taken])
        free = [entry for entry in full if entry[0] not in {stem for stem, _ in taken}]
        named = []
        for word in lines[at].split(" ")[1:]:
            if not word.isdigit() or len(word) > 2 or str(int(word)) != word or int(word) >= len(names):
                raise Wrong(at)
            if names[int(word)] in known:
                raise Wrong(at)
            named.append(int(word))
        kind = lines[at].split(" ")[0]
        if kind == "word" and len(named) == 1:
            behind = at + 1
            for entry in free:
                if names[named[0]] in forms(affixes, entry):
                    behind = node(behind, taken + [entry])
            return behind
        if kind != "apart" or named != sorted(set(named)) or len(named) + len(taken) < bound:
            raise Wrong(at)
        for entry in free:
            if len(forms(affixes, entry) & {names[number] for number in named}) > 1:
                raise Wrong(at)
        return at + 1

    try:
        end = node(0, [])
    except Wrong as wrong:
        return wrong.args[0]
    return None if end == len(lines) else end


def any_paper(affixes, words, rng, stop):
    """The text of a drawn node with its branches, right for no bound in particular; it stops early so often."""
    full = full_entries(affixes, words)
    names = sorted(words, key=reference.order)

    def node(taken):
        known = set().union(*[forms(affixes, entry) for entry in taken])
        free = [entry for entry in full if entry[0] not in {stem for stem, _ in taken}]
        left = [number for number, word in enumerate(names) if word not in known]
        if not left or rng.random() < stop:
            named = set()
            for number in rng.sample(left, rng.randint(0, len(left))):
                more = {names[other] for other in named | {number}}
                if all(len(forms(affixes, entry) & more) < 2 for entry in free):
                    named.add(number)
            return ["apart" + "".join(f" {number}" for number in sorted(named))]
        number = rng.choice(left)
        lines = [f"word {number}"]
        for entry in free:
            if names[number] in forms(affixes, entry):
                lines += node(taken + [entry])
        return lines

    return "\n".join(node([])) + "\n"


def drawn_affixes(rng, letters, many):
    affixes = []
    while len(affixes) < many:
        affix = reference.drawn_affix(rng, letters)
        affix = affix[:1] + (rng.choice((0, 1, 2, 5, 7)),) + affix[2:]
        if affix not in affixes:
            affixes.append(affix)
    return tuple(affixes)


def drawn_task(rng, letters="ab", affixes=4, words=6, longest=4):
    """Drawn affixes and words, of which some are forms of others."""
    affixes = drawn_affixes(rng, letters, rng.randint(0, affixes))
    many = rng.randint(1, words)
    found = []
    while len(found) < many:
        word = reference.drawn_text(rng, letters, 1, longest)
        more = [word]
        if affixes and rng.random() < 0.7:
            more = sorted(forms(affixes, (word, (rng.choice(affixes)[1],))))
        found += [form for form in more if len(form) <= 6 and form not in found]
    found = found[:many]
    rng.shuffle(found)
    return affixes, tuple(found)


def drawn_tasks(seed, many, **sizes):
    rng = random.Random(seed)
    for _ in range(many):
        yield drawn_task(rng, **sizes)


# Ten words and six affixes, with several full entries for some stems; papers for them are long.
LARGE_TASKS = (
    (
        (
            ("pre", 2, "b", "", "", True),
            ("pre", 5, "b", "ba", "", True),
            ("suf", 3, "ba", "a", "", True),
            ("suf", 0, "a", "b", "", False),
            ("pre", 3, "ab", "a", "", True),
            ("suf", 4, "", "a", "", True),
        ),
        ("ba", "aabbb", "aabba", "babab", "abab", "aab", "b", "aabbba", "bb", "abaa"),
    ),
    (
        (
            ("suf", 1, "b", "", "", False),
            ("pre", 5, "", "b", "", True),
            ("suf", 4, "ba", "b", "", False),
            ("pre", 0, "", "a", "", False),
            ("suf", 4, "", "b", "", True),
            ("suf", 2, "b", "a", "", False),
        ),
        ("aabb", "bba", "aab", "ab", "bbab", "abb", "aaaab", "baabbb", "bb", "b"),
    ),
    (
        (
            ("suf", 0, "", "a", "", True),
            ("suf", 1, "", "aa", "", True),
            ("suf", 2, "a", "", "", True),
            ("suf", 3, "aa", "", "", True),
            ("pre", 4, "", "a", "", True),
            ("pre", 5, "a", "", "", True),
        ),
        ("a", "aa", "aaa", "aaaa", "aaaaa", "aaaaaa", "b", "ab", "ba", "bb"),
    ),
    (
        tuple(("pre", flag, "", "f" + sign, "f", True) for flag, sign in enumerate("abcdef")),
        ("bbbbbb", "a", "b", "c", "d", "e", "aa", "ab", "ac", "ffffff"),
    ),
)
