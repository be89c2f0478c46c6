"""The text of a book: it is printed, and read again."""

from stemsure.books import book_at, is_book
from stemsure.errors import BadText
from stemsure.values import lines_of

DIGITS = ("0", "1", "2", "3", "4", "5", "6", "7", "8", "9")
CROSSES = {"yes": True, "no": False}


def shown(letters):
    """The letters as a word of a line."""
    return letters or "-"


def affix_line(affix):
    """The words of the line of an affix."""
    side, flag, strip, add, ends, cross = affix
    return ["affix", side, str(flag), shown(strip), shown(add), shown(ends), "yes" if cross else "no"]


def entry_line(entry):
    """The words of the line of an entry."""
    stem, flags = entry
    return ["entry", stem] + [str(flag) for flag in flags]


def printed(value):
    """The text of the book."""
    affixes, entries, forbidden = book_at(value, 0)
    rows = [affix_line(affix) for affix in affixes]
    rows.extend([entry_line(entry) for entry in entries])
    rows.extend([["forbid", word] for word in forbidden])
    return "".join([" ".join(row) + "\n" for row in rows])


def read_letters(word):
    """The letters that a word of a line shows, or None; whether they are right is not asked here."""
    if word == "":
        return None
    return "" if word == "-" else word


def read_flag(word):
    """The flag that a word of a line shows, or None."""
    return DIGITS.index(word) if word in DIGITS else None


def read_affix(words):
    """What these words of a line show as an affix; it has None where they show nothing."""
    if len(words) != 6:
        return None
    side, flag, strip, add, ends, cross = words
    return (side, read_flag(flag), read_letters(strip), read_letters(add), read_letters(ends), CROSSES.get(cross))


def read_entry(words):
    """What these words of a line show as an entry; it has None where they show nothing."""
    if not words:
        return None
    return words[0], tuple([read_flag(word) for word in words[1:]])


def with_line(book, line):
    """The book with what the line adds to it, or None if there is no such book."""
    affixes, entries, forbidden = book
    kind, *words = line.split(" ")
    if kind == "affix" and entries == () and forbidden == ():
        longer = (affixes + (read_affix(words),), (), ())
    elif kind == "entry" and forbidden == ():
        longer = (affixes, entries + (read_entry(words),), ())
    elif kind == "forbid" and len(words) == 1:
        longer = (affixes, entries, forbidden + (words[0],))
    else:
        return None
    return longer if is_book(longer) else None


def parse(text):
    """The book of the text."""
    if not isinstance(text, str):
        raise BadText(0)
    book = ((), (), ())
    for at, line in enumerate(lines_of(text)):
        book = with_line(book, line)
        if book is None:
            raise BadText(at)
    return book
