"""Tables read from text."""

from whoacts.errors import InvalidText, NotUsable
from whoacts.kinds import can_move, is_prime, is_root
from whoacts.tablelooks import moved_in, with_rows

DIGITS = "0123456789"
# No prime or root of a table has more digits.
MOST_DIGITS = 4
NO_PRIMES = "-"
BREAK = "/"


def table_read(text):
    """Return the table that any string writes."""
    if not isinstance(text, str):
        raise NotUsable("text", -1)
    return read_table(text, None)


def read_table(text, most):
    """Return the table with at most so many primes, however many if most is None, that a string writes."""
    words = text.split(" ")
    if words[0] == NO_PRIMES:
        return read_nothing(words)
    primes = read_primes(words, most)
    rows = read_rows(words, primes)
    return with_rows(primes, rows)


def read_nothing(words):
    """Return the table without primes, of words that begin with its sign."""
    if len(words) > 1:
        raise InvalidText(0, 1)
    return ((), ())


def read_primes(words, most):
    """Return the list of the primes, at most so many, with which the words begin."""
    primes = []
    for field, word in enumerate(words):
        if word == BREAK and field > 0:
            return primes
        prime = small_number(word)
        if not is_prime(prime) or (field > 0 and prime <= primes[-1]) or field == most:
            raise InvalidText(0, field)
        primes.append(prime)
    return primes


def read_rows(words, primes):
    """Return the list of the pairs of a mover and its row that stand behind the primes."""
    rows = []
    field = len(primes)
    while field < len(words):
        # At this field stands a word /, as read_primes and read_row end at one, or with the last word.
        mover = read_mover(words, field + 1, primes, rows)
        row = read_row(words, field + 2, primes, mover)
        rows.append((mover, row))
        field = field + 2 + len(row)
    return rows


def word_at(words, field):
    """Return the word at this field, which is the number of words if it is missing."""
    if field >= len(words):
        raise InvalidText(0, field)
    return words[field]


def read_mover(words, field, primes, rows):
    """Return the mover that the word at this field names, behind some rows."""
    word = word_at(words, field)
    mover = small_number(word[:-1])
    if word[-1:] != ":" or not may_begin(primes, rows, mover):
        raise InvalidText(0, field)
    return mover


def may_begin(primes, rows, mover):
    """Return whether this number, or None, can be the next mover behind some rows."""
    if mover not in primes or (len(rows) > 0 and mover <= rows[-1][0]):
        return False
    # What a mover can move is greater than it, so it is none of the movers ahead.
    return mover not in moved_in((primes, rows)) and any([can_move(mover, prime) for prime in primes])


def read_row(words, start, primes, mover):
    """Return the row of the mover, which begins at this field, up to a word / or the last word."""
    row = []
    field = start
    while field == start or (field < len(words) and words[field] != BREAK):
        moved, root = read_step(word_at(words, field))
        # No mover has a root at itself or at a mover ahead, as these are not greater than it.
        if moved not in primes or not is_root(root, mover, moved) or (len(row) > 0 and moved <= row[-1][0]):
            raise InvalidText(0, field)
        row.append((moved, root))
        field = field + 1
    return row


def read_step(word):
    """Return the two numbers of a word moved^root, each None where it does not stand there."""
    parts = word.split("^")
    if len(parts) != 2:
        return (None, None)
    return (small_number(parts[0]), small_number(parts[1]))


def small_number(word):
    """Return the number from 1 on that a word of at most four digits writes, None for any other word."""
    if word == "" or len(word) > MOST_DIGITS or not all([sign in DIGITS for sign in word]):
        return None
    # No number of a table is 0, so no word that begins so can stand.
    return None if word[0] == "0" else int(word)
