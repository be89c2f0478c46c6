"""The least machine of a book: its states are found, merged and numbered.

While states are found and merged, each has a row: the numbers of the states
to which the letters lead, in the order of the letters, without gaps. For this
there is a dead state from which no word leads to an end.
"""

from stemsure.parts import parts_alone, parts_to_join
from stemsure.values import LETTERS

# The states of a reader: what has been read, if a form or a forbidden word
# goes on behind it, otherwise None; what has been read of a form behind a first
# joined one, for each place at which it may have begun; and whether a word ends.
BEGIN = ("", (), False)
DEAD = (None, (), False)
DEAD_NUMBER = 1


def beginnings(words):
    """A dict whose keys are all beginnings of the words that are shorter than they."""
    return {word[:stop]: True for word in words for stop in range(len(word))}


class Reader:
    """Reads a word of a book letter by letter."""

    def __init__(self, book):
        affixes, entries, forbidden = book
        self.alone = parts_alone(affixes, entries)
        self.joined = parts_to_join(affixes, entries)
        self.forbidden = forbidden
        self.starts = beginnings(list(self.alone) + list(self.joined) + list(forbidden))
        self.joined_starts = beginnings(self.joined)

    def after(self, state, letter):
        """The state behind this letter."""
        head, later, _ = state
        whole = None if head is None else head + letter
        texts = [text + letter for text in later]
        ended = any([text in self.joined for text in texts])
        is_end = (ended or whole in self.alone) and whole not in self.forbidden
        going = [text for text in texts if text in self.joined_starts]
        if ended or whole in self.joined:
            going.append("")
        return whole if whole in self.starts else None, tuple(going), is_end


def table_of(book):
    """The rows of all states that a reader of the book may come to, and the list that says which are ends."""
    reader = Reader(book)
    states = [BEGIN, DEAD]
    numbers = {BEGIN: 0, DEAD: DEAD_NUMBER}
    rows = []
    while len(rows) < len(states):
        state = states[len(rows)]
        row = []
        for letter in LETTERS:
            following = reader.after(state, letter)
            if following not in numbers:
                numbers[following] = len(states)
                states.append(following)
            row.append(numbers[following])
        rows.append(row)
    return rows, [state[2] for state in states]


def refined(classes, rows):
    """The classes of the states, those apart too that differ by the classes to which a letter leads."""
    numbers = {}
    found = []
    for old, row in zip(classes, rows):
        key = (old, tuple([classes[state] for state in row]))
        if key not in numbers:
            numbers[key] = len(numbers)
        found.append(numbers[key])
    return found


def merged(rows, is_end):
    """The classes of the states from which the same words lead to an end."""
    classes = refined(is_end, rows)
    finer = refined(classes, rows)
    while max(finer) > max(classes):
        classes = finer
        finer = refined(classes, rows)
    return classes


def least_machine(book):
    """The machine with the fewest states that tells just the words of the book."""
    rows, is_end = table_of(book)
    classes = merged(rows, is_end)
    members = [0]
    numbers = {classes[0]: 0}
    moves = []
    at = 0
    while at < len(members):
        row = rows[members[at]]
        for letter, state in zip(LETTERS, row):
            kind = classes[state]
            if kind == classes[DEAD_NUMBER]:
                continue
            if kind not in numbers:
                numbers[kind] = len(members)
                members.append(state)
            moves.append((at, letter, numbers[kind]))
        at += 1
    ends = [number for number, state in enumerate(members) if is_end[state]]
    return len(members), tuple(ends), tuple(moves)
