"""What functions need of their parameters: tables to begin with, and logs."""

from whoacts.errors import NotUsable
from whoacts.kinds import is_pair, is_table
from whoacts.tableevents import is_event
from whoacts.webwork import MOST_PRIMES


def is_start(value):
    """Return whether any value is a table of at most eight primes."""
    return is_table(value) and len(value[0]) <= MOST_PRIMES


def is_log_pair(value):
    """Return whether any value is a log, with however many events."""
    if not is_pair(value) or not is_start(value[0]) or not isinstance(value[1], tuple):
        return False
    return all([is_event(event) for event in value[1]])


def need_log(log):
    """Refuse any value that is no log."""
    if not is_log_pair(log):
        raise NotUsable("log", -1)
