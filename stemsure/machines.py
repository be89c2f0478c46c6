"""Machines of books, and what they tell of the words."""

from stemsure.automata import least_machine, refined
from stemsure.books import book_at
from stemsure.errors import BadValue
from stemsure.parts import JOINED
from stemsure.values import LETTERS, is_integer

MOST_WORDS = 50
LONGEST_COUNTED = 40


def machine(value):
    """The machine with the fewest states that tells just the words of the book."""
    return least_machine(book_at(value, 0))


def moves_by_state(count, moves):
    """For each state the list of its pairs (letter, state), ascending."""
    rows = [[] for _ in range(count)]
    for state, letter, following in moves:
        rows[state].append((letter, following))
    return rows


def counts_at_end(count, ends):
    """For each state, how many words of no letter lead from it to an end."""
    counts = [0] * count
    for state in ends:
        counts[state] = 1
    return counts


def counts_one_longer(counts, rows):
    """For each state the number of words to an end, if counts has those of one letter less."""
    return [sum([counts[following] for _, following in row]) for row in rows]


def words_of_length(rows, tables, limit):
    """The least words of as many letters as there are tables behind the first, at most limit.

    The table at place k has the counts of the words of k letters.
    """
    heads = [("", 0)]
    for counts in reversed(tables[:-1]):
        # Each head is the beginning of a word, so no more of them than limit are needed.
        heads = [
            (text + letter, following)
            for text, state in heads
            for letter, following in rows[state]
            if counts[following] > 0
        ][:limit]
    return [text for text, _ in heads]


def first_words(value, limit):
    """The least words of the book, ascending, at most limit."""
    book = book_at(value, 0)
    if not is_integer(limit, 0, MOST_WORDS):
        raise BadValue(1)
    count, ends, moves = least_machine(book)
    rows = moves_by_state(count, moves)
    tables = [counts_at_end(count, ends)]
    found = []
    # Once no state has words of some length, none has longer ones.
    while len(found) < limit and any(tables[-1]):
        tables.append(counts_one_longer(tables[-1], rows))
        found.extend(words_of_length(rows, tables, limit - len(found)))
    return tuple(found)


def is_endless(value):
    """Whether the book has endlessly many words."""
    _, entries, _ = book_at(value, 0)
    # Any form that may be joined may be joined again and again, and only a few words are forbidden.
    return any([JOINED in flags for _, flags in entries])


def how_many(value, length):
    """The number of words of the book with this length."""
    book = book_at(value, 0)
    if not is_integer(length, 0, LONGEST_COUNTED):
        raise BadValue(1)
    count, ends, moves = least_machine(book)
    rows = moves_by_state(count, moves)
    counts = counts_at_end(count, ends)
    for _ in range(length):
        counts = counts_one_longer(counts, rows)
    return counts[0]


def full_rows(one, shift, dead):
    """The rows of a machine whose states are numbered from shift on, with moves to dead where it has none."""
    count, _, moves = one
    rows = [[dead] * len(LETTERS) for _ in range(count)]
    for state, letter, following in moves:
        rows[state][LETTERS.index(letter)] = shift + following
    return rows


def least_difference(one, other):
    """The least word that just one of two different machines tells, and which one."""
    shift = one[0]
    dead = shift + other[0]
    rows = full_rows(one, 0, dead) + full_rows(other, shift, dead) + [[dead] * len(LETTERS)]
    is_end = counts_at_end(one[0], one[1]) + counts_at_end(other[0], other[1]) + [0]
    # At place k, states of one class have the same words to an end up to k letters.
    levels = [is_end]
    while levels[-1][0] == levels[-1][shift]:
        levels.append(refined(levels[-1], rows))
    word = ""
    left, right = 0, shift
    for classes in reversed(levels[:-1]):
        at = min([k for k in range(len(LETTERS)) if classes[rows[left][k]] != classes[rows[right][k]]])
        word += LETTERS[at]
        left, right = rows[left][at], rows[right][at]
    return word, 0 if is_end[left] else 1


def unlike(one, other):
    """None, or the least word that just one of the books has, and which one has it."""
    books = (book_at(one, 0), book_at(other, 1))
    first, second = [least_machine(book) for book in books]
    if first == second:
        return None
    return least_difference(first, second)
