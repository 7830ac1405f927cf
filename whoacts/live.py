"""A table that changes by events."""

from whoacts.allcounts import counts_of
from whoacts.classcounts import chance_of
from whoacts.counts import all_parts, turning_count
from whoacts.errors import InvalidEvent, NotUsable, NothingToUndo
from whoacts.eventneeds import is_start
from whoacts.eventtexts import log_lines
from whoacts.eventwork import reason_against, table_behind
from whoacts.kinds import is_integer_pair
from whoacts.likework import is_alike
from whoacts.tableevents import NOTE, is_event
from whoacts.tablelooks import pairs_in, row_in
from whoacts.tableneeds import need_prime_of
from whoacts.twisting import twisted_count


class LiveTable:
    """A table that changes by its events alone; iterated over, it gives its web now."""

    MOST = 40

    def __init__(self, table=((), ())):
        if not is_start(table):
            raise NotUsable("table", -1)
        # The table of the beginning, and that behind each event.
        self._tables = [table]
        self._events = []
        self._web = pairs_in(table)
        self._calls = 0

    @property
    def table_now(self):
        """The table now."""
        return self._tables[-1]

    @property
    def begun_now(self):
        """The table of the beginning."""
        return self._tables[0]

    def go(self, event):
        """Apply any value as an event."""
        self._calls += 1
        self.lead((event,))

    def prime(self, p):
        """Add p as a still prime."""
        self._calls += 1
        self.lead((("prime", p),))

    def move(self, p, q, root):
        """Let p move q, too, by this root."""
        self._calls += 1
        self.lead((("move", p, q, root),))

    def drop(self, p, q):
        """Let p not move q any more."""
        self._calls += 1
        self.lead((("drop", p, q),))

    def power(self, p, k):
        """Take each root of the row of p to the power k."""
        self._calls += 1
        self.lead((("power", p, k),))

    def note(self, name):
        """Make a note of this moment with this name."""
        self._calls += 1
        self.lead(((NOTE, name),))

    def lead(self, events):
        """Apply a tuple of events up to the first that is not possible; tally does not count this."""
        for event in events:
            reason = self.barred(event)
            if reason is not None:
                raise InvalidEvent(event, reason)
            table = self._tables[-1]
            self._tables.append(table if event[0] == NOTE else table_behind(table, event))
            self._events.append(event)
            self._web = pairs_in(self._tables[-1])

    def plain(self):
        """Return counts_of the table now."""
        return counts_of(self._tables[-1])

    def chance(self):
        """Return the chance of exchanging now."""
        return chance_of(self._tables[-1])

    def parts(self):
        """Return how many parts the table has now."""
        return all_parts(self._tables[-1])

    def turnings(self):
        """Return how many turnings the table has now."""
        return turning_count(self._tables[-1])

    def twisted(self, r):
        """Return twisted_count of the table now and r."""
        return twisted_count(self._tables[-1], r)

    def table_then(self, name):
        """Return the table at the note with this name."""
        noted = self.tables_noted()
        if not isinstance(name, str) or name not in noted:
            raise NotUsable("name", -1)
        return noted[name]

    def alike_then(self, name):
        """Return whether the table now is alike to that at the note with this name."""
        return is_alike(self._tables[-1], self.table_then(name))

    def counts_then(self, name):
        """Return whether the table now has the primes and the plain counts of that at the note with this name."""
        then = self.table_then(name)
        # With the same primes all plain counts hang on the web alone.
        return self._tables[-1][0] == then[0] and self._web == pairs_in(then)

    def tables_noted(self):
        """Return a dict that gives each name of a note the table at it."""
        steps = [(event, table) for event, table in zip(self._events, self._tables) if event[0] == NOTE]
        return dict([(event[1], table) for event, table in steps])

    def barred(self, event):
        """Return the reason why any value is not possible as an event, None if it is possible."""
        if not is_event(event):
            return "shape"
        if len(self._events) >= self.MOST:
            return "full"
        if event[0] == NOTE:
            return "name" if event[1] in self.tables_noted() else None
        return reason_against(self._tables[-1], event)

    def tried(self, *events):
        """Return the table as it would be behind these events."""
        trial = LiveTable(self._tables[0])
        trial.lead(tuple(self._events))
        trial.lead(events)
        return trial.table_now

    def undo(self):
        """Take back the last event, and return it."""
        self._calls += 1
        if len(self._events) == 0:
            raise NothingToUndo(0)
        self._tables.pop()
        self._web = pairs_in(self._tables[-1])
        return self._events.pop()

    def do_all(self, *events, keep=False):
        """Apply the events in order, and return how many there are; with keep those ahead of an error stand."""
        self._calls += 1
        if not isinstance(keep, bool):
            raise NotUsable("keep", -1)
        if not keep:
            # The first error is raised here already, while nothing has changed.
            self.tried(*events)
        self.lead(events)
        return len(events)

    def tally(self):
        """Return the pair of how many of the counted calls were begun and ended."""
        # None of these calls is still going on when this one begins.
        return (self._calls, self._calls)

    def notes(self):
        """Return the set of the names of the notes."""
        return tuple(sorted(list(self.tables_noted())))

    def log(self):
        """Return the log: the table of the beginning, and the events that were not taken back."""
        return (self._tables[0], tuple(self._events))

    def __call__(self, event):
        self.go(event)

    def __getitem__(self, at):
        need_prime_of(self._tables[-1], at)
        return row_in(self._tables[-1], at)

    def __contains__(self, x):
        return is_integer_pair(x) and x in self._web

    def __iter__(self):
        return iter(self._web)

    def __len__(self):
        return len(self._events)

    def __str__(self):
        return "\n".join(log_lines(self.log()))

    def __eq__(self, other):
        return isinstance(other, LiveTable) and self._tables[0] == other._tables[0] and self._events == other._events
