"""A slow reading of section 6 of the document, independent of the package."""

import functools

from tests import reference


def distance(one, other):
    """The least sum along a way of [28], tried in all ways."""

    @functools.lru_cache(maxsize=None)
    def behind(at, to):
        """The least sum for what stands in both behind these places."""
        if at == len(one) and to == len(other):
            return 0
        sums = []
        if at < len(one):
            sums.append(1 + behind(at + 1, to))
        if to < len(other):
            sums.append(1 + behind(at, to + 1))
        if at < len(one) and to < len(other):
            sums.append((one[at] != other[to]) + behind(at + 1, to + 1))
        if one[at:at + 2] == other[to:to + 2][::-1] and len(one[at:at + 2]) == 2:
            sums.append(1 + behind(at + 2, to + 2))
        return min(sums)

    return behind(0, 0)


def stepped(text, letters):
    """All strings of these letters that are one step away from the text."""
    found = set()
    for at in range(len(text) + 1):
        head, tail = text[:at], text[at:]
        found |= {head + sign + tail for sign in letters}
        if tail:
            found.add(head + tail[1:])
            found |= {head + sign + tail[1:] for sign in letters}
        if len(tail) > 1:
            found.add(head + tail[1] + tail[0] + tail[2:])
    return found


def strings_within(text, most, letters=reference.LETTERS):
    """All strings of these letters up to this distance from the text."""
    found = {text}
    for _ in range(most):
        found = set().union(found, *[stepped(some, letters) for some in found])
    # Two steps one after the other may take the same letter: then the strings may be further apart.
    return {some for some in found if distance(text, some) <= most}


def near(words, text, most, limit):
    """The pairs that [29] describes, for a book whose words of at most length + 2 letters are these."""
    pairs = [(distance(text, word), word) for word in words if abs(len(word) - len(text)) <= most]
    return tuple(sorted(
        (pair for pair in pairs if pair[0] <= most), key=lambda pair: (pair[0], len(pair[1]), pair[1])
    )[:limit])
