"""Papers: texts that show that fewer entries do not do.

A node of a paper is known by the full entries that are taken on the way to it:
a tuple of such triples as those of covers.
"""

from stemsure.values import is_ascending


def free_ones(full, taken):
    """The full entries whose stem no taken one has."""
    stems = [stem for stem, _, _ in taken]
    return [one for one in full if one[0] not in stems]


def bears(one, number):
    """Whether the full entry bears the word with this number."""
    return ((one[2] >> number) & 1) == 1


def numbers_left(many, taken):
    """The numbers of the words, of which there are so many, that no taken entry bears."""
    return [number for number in range(many) if not any([bears(one, number) for one in taken])]


def branches_at(number, full, taken):
    """The branches of the node that names the word with this number."""
    return [taken + (one,) for one in free_ones(full, taken) if bears(one, number)]


def most_apart(numbers, free):
    """The most of these numbers of words of which no free entry bears two, ascending."""
    # Pairs of the size of a set of words and the set.
    sets = [(0, 0)]
    for number in numbers:
        beside = 0
        for one in free:
            if bears(one, number):
                beside = beside | one[2]
        sets = sets + [(size + 1, some | (1 << number)) for size, some in sets if (some & beside) == 0]
    _, largest = max(sets)
    return [number for number in numbers if ((largest >> number) & 1) == 1]


def written_line(kind, numbers):
    """The line of a node."""
    return " ".join([kind] + [str(number) for number in numbers])


def written_lines(many, full, bound):
    """The lines of a paper over so many words that is right for the bound, if any is."""
    lines = []
    nodes = [()]
    while nodes:
        taken = nodes.pop()
        left = numbers_left(many, taken)
        apart = most_apart(left, free_ones(full, taken))
        if len(apart) + len(taken) >= bound:
            lines.append(written_line("apart", apart))
            continue
        choices = [(len(branches_at(number, full, taken)), number) for number in left]
        _, number = min(choices)
        lines.append(written_line("word", [number]))
        nodes.extend(branches_at(number, full, taken)[::-1])
    return lines


def read_numbers(words, many):
    """The numbers that the words of a line are, or None if one is no number of a word."""
    names = [str(number) for number in range(many)]
    if not all([word in names for word in words]):
        return None
    return [names.index(word) for word in words]


def are_apart(numbers, free):
    """Whether the numbers ascend, and no free entry bears two of these words."""
    if not is_ascending(numbers):
        return False
    return all([len([number for number in numbers if bears(one, number)]) < 2 for one in free])


def branches_of_line(line, many, full, bound, taken):
    """The branches of the node that the line is, or None if no such node may stand there."""
    kind, *rest = line.split(" ")
    numbers = read_numbers(rest, many)
    left = numbers_left(many, taken)
    if numbers is None or not all([number in left for number in numbers]):
        return None
    if kind == "word" and len(numbers) == 1:
        return branches_at(numbers[0], full, taken)
    if kind == "apart" and are_apart(numbers, free_ones(full, taken)) and len(numbers) + len(taken) >= bound:
        return []
    return None


def first_wrong_line(lines, many, full, bound):
    """The number of the first line that is wrong in a paper, or of the first that lacks; None if it is right."""
    nodes = [()]
    for at, line in enumerate(lines):
        if not nodes:
            return at
        branches = branches_of_line(line, many, full, bound, nodes.pop())
        if branches is None:
            return at
        nodes.extend(branches[::-1])
    return len(lines) if nodes else None
