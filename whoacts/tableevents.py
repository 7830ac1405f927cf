"""Events by form."""

from whoacts.kinds import is_number
from whoacts.paperwork import word_of

# How many numbers stand behind the word of an event; behind that of a note stands a name.
NUMBERS = {"prime": 1, "move": 3, "drop": 2, "power": 2}
NOTE = "note"
LETTERS = "abcdefghijklmnopqrstuvwxyz"
LONGEST_NAME = 8


def is_event(value):
    """Return whether any value is an event by form."""
    word = word_of(value)
    if word == NOTE:
        return len(value) == 2 and is_name(value[1])
    if word is None or NUMBERS.get(word) != len(value) - 1:
        return False
    return all([is_number(each) for each in value[1:]])


def is_name(value):
    """Return whether any value is a string of one to eight lowercase letters."""
    if not isinstance(value, str) or not 1 <= len(value) <= LONGEST_NAME:
        return False
    return all([sign in LETTERS for sign in value])
