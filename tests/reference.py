"""A slow reading of the document, independent of the package, and drawn books for the tests."""

import itertools
import random

LETTERS = "abcdef"


def order(word):
    return (len(word), word)


def is_kind_of_int(value, low, high):
    return type(value) is int and low <= value <= high


def is_text(value, low, high):
    return type(value) is str and low <= len(value) <= high and set(value) <= set(LETTERS)


def tuples(value):
    return tuple(tuples(part) for part in value) if type(value) in (list, tuple) else value


def lists(value):
    return [lists(part) for part in value] if type(value) in (list, tuple) else value


def mixed(value, rng):
    if type(value) not in (list, tuple):
        return value
    return rng.choice((list, tuple))(mixed(part, rng) for part in value)


def is_affix(value):
    if type(value) is not tuple or len(value) != 6:
        return False
    side, flag, strip, add, ends, cross = value
    return (
        side in ("pre", "suf")
        and is_kind_of_int(flag, 0, 7)
        and is_text(strip, 0, 2)
        and is_text(add, 0, 2)
        and strip != add
        and is_text(ends, 0, 6)
        and list(ends) == sorted(set(ends))
        and type(cross) is bool
    )


def is_entry(value):
    if type(value) is not tuple or len(value) != 2:
        return False
    stem, flags = value
    return (
        is_text(stem, 1, 6)
        and type(flags) is tuple
        and all(is_kind_of_int(flag, 0, 9) for flag in flags)
        and list(flags) == sorted(set(flags))
    )


def is_book(value):
    value = tuples(value)
    if type(value) is not tuple or len(value) != 3 or any(type(part) is not tuple for part in value):
        return False
    affixes, entries, forbidden = value
    if len(affixes) > 6 or not all(map(is_affix, affixes)) or len(set(affixes)) < len(affixes):
        return False
    if len(entries) > 8 or not all(map(is_entry, entries)):
        return False
    stems = [stem for stem, _ in entries]
    if len(forbidden) > 5 or not all(is_text(word, 1, 8) for word in forbidden):
        return False
    return all(list(words) == sorted(set(words), key=order) for words in (stems, forbidden))


def strip_fits(affix, stem):
    side, _, strip, _, ends, _ = affix
    if len(stem) <= len(strip):
        return False
    if side == "pre":
        return stem[:len(strip)] == strip and (not ends or stem[0] in ends)
    return stem[len(stem) - len(strip):] == strip and (not ends or stem[-1] in ends)


def parts(affixes, entry):
    """The pairs (part, form) of the entry."""
    stem, flags = entry
    yield (stem, -1, -1), stem
    usable = [k for k, affix in enumerate(affixes) if affix[1] in flags and strip_fits(affix, stem)]
    for k in usable:
        strip, add = affixes[k][2:4]
        if affixes[k][0] == "pre":
            yield (stem, k, -1), add + stem[len(strip):]
        else:
            yield (stem, -1, k), stem[:len(stem) - len(strip)] + add
    for k, m in itertools.permutations(usable, 2):
        one, two = affixes[k], affixes[m]
        if (one[0], two[0]) == ("pre", "suf") and one[5] and two[5]:
            if len(stem) > len(one[2]) + len(two[2]):
                yield (stem, k, m), one[3] + stem[len(one[2]):len(stem) - len(two[2])] + two[3]


def forms(book, stem):
    affixes, entries, _ = book
    (entry,) = [entry for entry in entries if entry[0] == stem]
    return tuple(sorted({form for _, form in parts(affixes, entry)}, key=order))


def all_parts(book, wanted):
    affixes, entries, _ = book
    return [pair for entry in entries if wanted(entry[1]) for pair in parts(affixes, entry)]


def splits(pairs, word):
    """All ways to make the word of zero or more of the parts."""
    if word == "":
        return [()]
    found = []
    for part, form in pairs:
        if word.startswith(form):
            found += [(part,) + way for way in splits(pairs, word[len(form):])]
    return found


def ways(book, word):
    if word in book[2]:
        return ()
    alone = [(part,) for part, form in all_parts(book, lambda flags: 9 not in flags) if form == word]
    joined = [way for way in splits(all_parts(book, lambda flags: 8 in flags), word) if len(way) > 1]
    return tuple(sorted(alone + joined))


def words(book, longest):
    """The set of all words of the book of at most so many letters."""
    alone = {form for _, form in all_parts(book, lambda flags: 9 not in flags)}
    joinable = {form for _, form in all_parts(book, lambda flags: 8 in flags)}
    found = {word for word in alone if len(word) <= longest}
    fresh = joinable
    seen = set()
    while fresh:
        fresh = {one + two for one in fresh for two in joinable if len(one + two) <= longest} - seen
        seen |= fresh
    return (found | seen) - set(book[2])


def texts(letters, longest):
    """All strings of these letters with one to so many letters, in the order of words."""
    for length in range(1, longest + 1):
        for signs in itertools.product(letters, repeat=length):
            yield "".join(signs)


def tells(machine, word):
    count, ends, moves = machine
    table = {(state, letter): to for state, letter, to in moves}
    state = 0
    for letter in word:
        state = table.get((state, letter))
        if state is None:
            return False
    return state in ends


def words_told(machine, longest):
    """The set of all words of at most so many letters that the machine tells."""
    count, ends, moves = machine
    heads = [("", 0)]
    found = set()
    for _ in range(longest):
        heads = [(text + letter, to) for text, at in heads for state, letter, to in moves if state == at]
        found |= {text for text, at in heads if at in ends}
    return found


def machine_by_tails(book, tail):
    """The least machine, made by brute force: texts lead to one state if the same tails end words.

    Right for books whose states all differ by a tail of at most that many letters.
    """
    used = sorted({sign for _, form in all_parts(book, lambda flags: True) for sign in form})
    tails = [""] + list(texts(used, tail))
    longest = 4 * tail
    known = words(book, longest)
    numbers = {}
    moves = []
    heads = [""]
    numbers[tuple(text in known for text in tails)] = 0
    for head in heads:
        assert len(head) + 1 + tail <= longest
        for letter in used:
            key = tuple(head + letter + text in known for text in tails)
            if any(key):
                if key not in numbers:
                    numbers[key] = len(heads)
                    heads.append(head + letter)
                moves.append((heads.index(head), letter, numbers[key]))
    ends = tuple(at for at, head in enumerate(heads) if head in known)
    return len(heads), ends, tuple(moves)


def is_machine(value):
    """Whether the value has the form of [22] and the numbering and the ways of [23]."""
    count, ends, moves = value
    states = range(count)
    if list(ends) != sorted(set(ends)) or not set(ends) <= set(states) or 0 in ends:
        return False
    if list(moves) != sorted(set(moves)) or len({move[:2] for move in moves}) < len(moves):
        return False
    if any(one not in states or letter not in LETTERS or two not in states for one, letter, two in moves):
        return False
    order_of_states = [0]
    for state in order_of_states:
        for one, _, two in moves:
            if one == state and two not in order_of_states:
                order_of_states.append(two)
    to_end = set(ends)
    for _ in states:
        to_end |= {one for one, _, two in moves if two in to_end}
    return order_of_states == list(states) and (to_end == set(states) or value == (1, (), ()))


def is_least(machine):
    """Whether no two states of the machine have the same words to an end."""
    count, ends, moves = machine
    table = {(state, letter): to for state, letter, to in moves}
    apart = {(p, q) for p in range(-1, count) for q in range(-1, count) if (p in ends) != (q in ends)}
    size = -1
    while size < len(apart):
        size = len(apart)
        for p, q in itertools.product(range(-1, count), repeat=2):
            if any((table.get((p, sign), -1), table.get((q, sign), -1)) in apart for sign in LETTERS):
                apart.add((p, q))
    return machine == (1, (), ()) or len(apart) == (count + 1) * count


def drawn_text(rng, letters, low, high):
    return "".join(rng.choice(letters) for _ in range(rng.randint(low, high)))


def drawn_affix(rng, letters):
    while True:
        ends = "".join(sorted(rng.sample(letters, rng.choice((0, 0, 1, len(letters))))))
        affix = (
            rng.choice(("pre", "suf")),
            rng.choice((0, 0, 1, 7)),
            drawn_text(rng, letters, 0, 2) if rng.random() < 0.5 else "",
            drawn_text(rng, letters, 0, 2),
            ends,
            rng.random() < 0.7,
        )
        if affix[2] != affix[3]:
            return affix


def drawn_book(rng, letters="ab", affixes=4, entries=4, stem=3, forbidden=3):
    """A right book over these letters, with at most so many affixes and so on."""
    some = {drawn_affix(rng, letters) for _ in range(rng.randint(0, affixes))}
    stems = {drawn_text(rng, letters, 1, stem) for _ in range(rng.randint(0, entries))}
    kinds = ((), (8,), (9,), (8, 9), (0, 8), (0, 1, 7), (0, 1, 7, 8), (0, 1, 7, 8, 9), (1, 9))
    kind = rng.choice(((), (8,), None, None))
    made = []
    for word in sorted(stems, key=order):
        made.append((word, rng.choice(kinds) if kind is None else tuple(sorted({0, 1, 7, *kind}))))
    # Forbidden are above all words that the book would have without them.
    near = sorted(words((tuple(some), tuple(made), ()), 6), key=order) + ["ba"]
    out = {rng.choice(near) for _ in range(rng.randint(0, forbidden))}
    out = {word for word in out if len(word) <= 8}
    some = list(some)
    some.sort()
    rng.shuffle(some)
    return tuple(some), tuple(made), tuple(sorted(out, key=order))


def drawn_books(seed, many, **sizes):
    rng = random.Random(seed)
    for _ in range(many):
        yield drawn_book(rng, **sizes)
