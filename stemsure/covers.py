"""The full entries of words, and the fewest of them that bear all words.

The words are numbered from 0 on, ascending. A set of words is kept as an
integer with the bits of their numbers. A full entry is kept as a triple: its
stem, its flags, and the set of the words that it bears.
"""

from stemsure.parts import parts_by_form


def forms_with(affixes, stem, flags):
    """The different forms of an entry with this stem and these flags."""
    return list(parts_by_form(affixes, [(stem, flags)]))


def right_flags(affixes, words, stem):
    """All tuples of flags of the affixes with which an entry has no forms but words."""
    found = [()]
    for flag in sorted(set([affix[1] for affix in affixes])):
        # A further flag takes no form away: so only what is right without it may be right with it.
        longer = [flags + (flag,) for flags in found]
        found = found + [
            flags for flags in longer if all([form in words for form in forms_with(affixes, stem, flags)])
        ]
    return found


def is_one_wider(flags, others):
    """Whether flags are the others and just one more."""
    return len(flags) == len(others) + 1 and all([flag in flags for flag in others])


def full_flags(affixes, words, stem):
    """The tuples of flags of the full entries with this stem, ascending."""
    right = right_flags(affixes, words, stem)
    return sorted([flags for flags in right if not any([is_one_wider(wider, flags) for wider in right])])


def set_of(numbers):
    """The set of the words with these different numbers."""
    return sum([1 << number for number in numbers])


def full_ones(affixes, words):
    """The full entries of the words, which ascend, in the order of stems and flags."""
    found = []
    for stem in words:
        for flags in full_flags(affixes, words, stem):
            borne = set_of([words.index(form) for form in forms_with(affixes, stem, flags)])
            found.append((stem, flags, borne))
    return found


def least_cover(words, full):
    """As few full entries with different stems, ascending, as may together bear all words."""
    # For each set of words the fewest entries, of those gone through, that together bear just it.
    covers = {0: ()}
    for stem in words:
        # None of these has an entry with this stem yet.
        earlier = list(covers.items())
        for one in [other for other in full if other[0] == stem]:
            for borne, taken in earlier:
                together = borne | one[2]
                if together not in covers or len(covers[together]) > len(taken) + 1:
                    covers[together] = taken + (one,)
    return covers[set_of(list(range(len(words))))]
