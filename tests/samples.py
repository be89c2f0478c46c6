"""Values that tests pass: right books, the largest book, and values that are of no described kind."""

ADDING = ("suf", 0, "", "d", "", True)

# The book of the document's first section.
ONE = ((ADDING,), (("ab", (0, 8)), ("cab", ())), ())

EMPTY = ((), (), ())

FULL = (
    (
        ("pre", 0, "", "b", "", True),
        ("pre", 3, "a", "", "ab", True),
        ("suf", 0, "", "dd", "abc", False),
        ("suf", 0, "c", "", "", True),
        ("suf", 5, "ab", "c", "abcdef", True),
        ("suf", 7, "ba", "ff", "a", False),
    ),
    (
        ("a", ()),
        ("b", (0, 9)),
        ("ab", (0, 8)),
        ("fc", (0, 3, 8, 9)),
        ("cab", (0, 5)),
        ("dabac", (7,)),
        ("aabaac", (0, 3, 5, 7, 8)),
        ("fedcba", (0, 1, 2, 3, 4, 5, 6, 7, 8)),
    ),
    ("a", "fcfc", "aabaacd", "abababab", "fcfcfcfc"),
)

# As many affixes, entries, letters and forbidden words as a book may have; its machine is large, too.
LARGEST = (
    (
        ("suf", 0, "a", "bb", "", True),
        ("pre", 0, "", "ba", "", True),
        ("pre", 0, "a", "bb", "", True),
        ("suf", 0, "b", "aa", "", True),
        ("pre", 0, "", "a", "", True),
        ("suf", 0, "", "ba", "", True),
    ),
    tuple(
        (stem, (0, 1, 2, 3, 4, 5, 6, 7, 8))
        for stem in ("bbbab", "aaaaab", "aaabbb", "aabbbb", "abaabb", "abbaab", "abbbaa", "abbbba")
    ),
    ("abbaab", "bbaabb", "aaabbbaa", "abbbaaba", "baabbbba"),
)


def nested(depth):
    value = "ab"
    for _ in range(depth):
        value = [value]
    return value


def odd_values():
    """Values of [10] that are no book, no affix, no entry, no word, no stem of a sample and no small number."""
    return [
        None,
        True,
        False,
        -1,
        51,
        10 ** 30,
        -10 ** 30,
        "",
        "g",
        "A",
        "a b",
        "ab\n",
        "pre",
        "a" * 41,
        "a" * 20000,
        "~\n" * 10000,
        [],
        (),
        [[], []],
        ((), (), None),
        ((), (), "", ""),
        ["a", "b"],
        ("a",),
        (("a", ()),),
        [0] * 5000,
        tuple(["ab"] * 5000),
        [[[]] * 800, [()] * 800, ("a",) * 800],
        nested(20),
        (nested(19), nested(19), nested(19)),
        ([nested(18)], [nested(18)], [nested(18)]),
        [[True, 0, None, "a"], ("a", (0, True)), [[], ""]],
    ]
