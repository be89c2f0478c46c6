"""The distance of two strings, and the words of a book near a text."""

from stemsure.automata import least_machine
from stemsure.books import book_at
from stemsure.errors import BadValue
from stemsure.machines import moves_by_state
from stemsure.values import is_integer, is_letters, word_order

LONGEST_MEASURED = 12
LONGEST_TEXT = 10
MOST_STEPS = 2
MOST_PAIRS = 40


def measure_of_nothing(text):
    """The measure of the empty string against the text.

    A measure of what has been read is a triple: its distances from all
    beginnings of the text, the shorter ones first; those of what had been read
    ahead of its last letter; and that letter.
    """
    return list(range(len(text) + 1)), [], ""


def measure_behind(text, measure, letter):
    """The measure of what has been read with this letter behind it."""
    row, before, last = measure
    made = [row[0] + 1]
    for at in range(1, len(text) + 1):
        step = 0 if text[at - 1] == letter else 1
        least = min(row[at] + 1, made[at - 1] + 1, row[at - 1] + step)
        if at > 1 and text[at - 2:at] == letter + last:
            least = min(least, before[at - 2] + 1)
        made.append(least)
    return made, row, letter


def distance(one, other):
    """The fewest steps with which one is made other, where no letter takes part in more than one step."""
    if not is_letters(one, 0, LONGEST_MEASURED):
        raise BadValue(0)
    if not is_letters(other, 0, LONGEST_MEASURED):
        raise BadValue(1)
    measure = measure_of_nothing(one)
    for letter in other:
        measure = measure_behind(one, measure, letter)
    return measure[0][-1]


def pairs_within(ends, rows, text, most):
    """All pairs (distance, word) of the words of a machine up to this distance from the text.

    The machine is given by its ends and, for each state, the list of its pairs (letter, state).
    """
    heads = [("", 0, measure_of_nothing(text))]
    found = []
    while heads:
        longer = []
        for head, state, measure in heads:
            for letter, following in rows[state]:
                further = measure_behind(text, measure, letter)
                # The least distance from any beginning of the text never falls as the head grows.
                if min(further[0]) <= most:
                    longer.append((head + letter, following, further))
        found.extend([
            (measure[0][-1], head)
            for head, state, measure in longer
            if measure[0][-1] <= most and state in ends
        ])
        heads = longer
    return found


def pair_order(pair):
    """The key by which pairs (distance, word) are ordered."""
    steps, word = pair
    return steps, word_order(word)


def words_near(book, text, most, limit):
    """The pairs (distance, word) of the words of the book up to this distance from the text, at most limit."""
    count, ends, moves = least_machine(book)
    rows = moves_by_state(count, moves)
    found = []
    for reach in range(most + 1):
        found = pairs_within(ends, rows, text, reach)
        # A wider search takes much longer, and finds no nearer words.
        if len(found) >= limit:
            break
    return tuple(sorted(found, key=pair_order)[:limit])


def check_search(text, most, limit, at):
    """Raises BadValue for the first argument of a search that is not as described; text is that at position at."""
    if not is_letters(text, 0, LONGEST_TEXT):
        raise BadValue(at)
    if not is_integer(most, 0, MOST_STEPS):
        raise BadValue(at + 1)
    if not is_integer(limit, 0, MOST_PAIRS):
        raise BadValue(at + 2)


def near(value, text, most, limit):
    """The pairs (distance, word) of the words of the book near the text, the nearest first."""
    book = book_at(value, 0)
    check_search(text, most, limit, 1)
    return words_near(book, text, most, limit)
