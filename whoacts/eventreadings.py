"""Events and logs read from lines."""

from whoacts.errors import InvalidText, NotUsable
from whoacts.tableevents import NOTE, NUMBERS, is_name
from whoacts.tablereadings import DIGITS, read_table
from whoacts.webwork import MOST_PRIMES

MOST_DIGITS = 90


def read_event(text):
    """Return the event that any string writes."""
    if not isinstance(text, str):
        raise NotUsable("text", -1)
    return read_line(text, 0)


def read_log(lines):
    """Return the log that any list of strings writes."""
    if not isinstance(lines, list) or not all([isinstance(text, str) for text in lines]):
        raise NotUsable("lines", -1)
    if len(lines) == 0:
        raise InvalidText(0, 0)
    table = read_table(lines[0], MOST_PRIMES)
    return (table, tuple([read_line(text, line) for line, text in enumerate(lines) if line > 0]))


def read_line(text, line):
    """Return the event that a string writes, which is the line with this index."""
    words = text.split(" ")
    field = first_fault(words)
    if field is not None:
        raise InvalidText(line, field)
    if words[0] == NOTE:
        return (NOTE, words[1])
    return tuple(words[:1] + [int(word) for word in words[1:]])


def first_fault(words):
    """Return the index of the first word that cannot stand in an event's line, or is missing; None if all can."""
    many = 1 if words[0] == NOTE else NUMBERS.get(words[0])
    if many is None:
        return 0
    for field in range(1, many + 1):
        if field >= len(words) or not can_stand(words[0], words[field]):
            return field
    return many + 1 if len(words) > many + 1 else None


def can_stand(first, word):
    """Return whether a word can stand behind the first one in an event's line."""
    return is_name(word) if first == NOTE else is_decimal(word)


def is_decimal(word):
    """Return whether a string writes a number of at most ninety digits, without a leading zero."""
    if not 1 <= len(word) <= MOST_DIGITS or not all([sign in DIGITS for sign in word]):
        return False
    return word == "0" or word[0] != "0"
