"""Events and logs written as lines."""

from whoacts.errors import NotUsable
from whoacts.eventneeds import need_log
from whoacts.tableevents import is_event
from whoacts.tabletexts import table_text


def event_line(event):
    """Return the line that writes the event."""
    if not is_event(event):
        raise NotUsable("event", -1)
    return " ".join([str(each) for each in event])


def log_lines(log):
    """Return the list of the line that writes the log's table, and of those that write its events."""
    need_log(log)
    return [table_text(log[0])] + [event_line(event) for event in log[1]]
