"""A desk, at which a live table is led by rows of text."""

from whoacts.errors import InvalidRow, InvalidText
from whoacts.eventreadings import is_decimal, read_line
from whoacts.eventtexts import event_line
from whoacts.live import LiveTable
from whoacts.tableevents import is_name
from whoacts.tablereadings import read_table
from whoacts.tabletexts import table_text
from whoacts.webwork import MOST_PRIMES

START = "table "
DONE = "ok"
NOTHING = "-"


class Desk:
    """A desk, which begins without a live table."""

    def __init__(self):
        self._live = None
        self._calls = 0

    def say(self, value):
        """Do what a row says, and return the answer; InvalidRow refuses any other value."""
        self._calls += 1
        table = start_told(value)
        if table is not None:
            self._live = LiveTable(table)
            return DONE
        if self._live is None or not is_row(value):
            raise InvalidRow(value)
        return answer_to(self._live, value)

    def tally(self):
        """Return the pair of how many calls of say were begun and ended."""
        # No such call is still going on when this one begins.
        return (self._calls, self._calls)


def start_told(value):
    """Return the table with which any value asks a new live table to begin, None if it does not."""
    if not isinstance(value, str) or not value.startswith(START):
        return None
    try:
        return read_table(value[len(START):], MOST_PRIMES)
    except InvalidText:
        return None


def event_told(text):
    """Return the event that a string writes, None if it writes none."""
    try:
        return read_line(text, 0)
    except InvalidText:
        return None


def say_undone(live):
    """Take back the last event, and return its line."""
    return event_line(live.undo())


def say_table(live):
    """Return the line that writes the table now."""
    return table_text(live.table_now)


def say_web(live):
    """Return the pairs of the web now."""
    words = [f"{mover}:{moved}" for mover, moved in live]
    return " ".join(words) if len(words) > 0 else NOTHING


def say_chance(live):
    """Return the chance of exchanging now."""
    top, bottom = live.chance()
    return f"{top}/{bottom}"


def say_parts(live):
    """Return how many parts there are now."""
    return str(live.parts())


def say_turnings(live):
    """Return how many turnings there are now."""
    return str(live.turnings())


def say_log(live):
    """Return the lines of the log."""
    return str(live)


def say_barred(live, text):
    """Return the reason for which the event of a line is not possible, or that there is none."""
    reason = live.barred(event_told(text))
    return NOTHING if reason is None else reason


def say_twisted(live, text):
    """Return the twisted count of a number in decimal."""
    return str(live.twisted(int(text)))


def say_alike(live, name):
    """Return whether the table now is alike to that at a note."""
    return yes_or_no(live.alike_then(name))


def say_counts(live, name):
    """Return whether the table now has the primes and the plain counts of that at a note."""
    return yes_or_no(live.counts_then(name))


def say_then(live, name):
    """Return the line that writes the table at a note."""
    return table_text(live.table_then(name))


def yes_or_no(told):
    """Return the word for True or for False."""
    return "yes" if told else "no"


# What answers a row of one word.
ALONE = {"undo": say_undone, "table": say_table, "web": say_web, "chance": say_chance, "parts": say_parts,
         "turnings": say_turnings, "log": say_log}
# What answers a row of a word and more, which is no line of an event.
BESIDE = {"bars": say_barred, "twisted": say_twisted, "alike": say_alike, "counts": say_counts, "then": say_then}


def is_row(value):
    """Return whether any value is a row that a desk with a live table understands, other than for a new one."""
    if not isinstance(value, str):
        return False
    word, _, rest = value.partition(" ")
    if word == "bars":
        return event_told(rest) is not None
    if word == "twisted":
        return is_decimal(rest)
    if word in BESIDE:
        return is_name(rest)
    return value in ALONE or event_told(value) is not None


def answer_to(live, row):
    """Return the answer to a row."""
    word, _, rest = row.partition(" ")
    if row in ALONE:
        answer = ALONE[row]
        return answer(live)
    if word in BESIDE:
        reply = BESIDE[word]
        return reply(live, rest)
    live.go(event_told(row))
    return DONE
