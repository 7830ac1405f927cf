"""Logs, and live tables made of them."""

from whoacts.eventneeds import is_log_pair, need_log
from whoacts.live import LiveTable


def is_log(value):
    """Return whether any value is a log, with however many events."""
    return is_log_pair(value)


def replayed(log):
    """Return a new live table, led by the events of the log."""
    need_log(log)
    live = LiveTable(log[0])
    live.lead(log[1])
    return live
