"""Events as the document tells them: their form, the reasons against them, the tables behind them, and some to try."""

from tests import reference, samples

WORDS = {"prime": 1, "move": 3, "drop": 2, "power": 2}


def is_name(value):
    return type(value) is str and 1 <= len(value) <= 8 and set(value) <= set("abcdefghijklmnopqrstuvwxyz")


def is_event(value):
    """Whether a value is an event by form, as [82] says."""
    if type(value) is not tuple or not value or type(value[0]) is not str:
        return False
    if value[0] == "note":
        return len(value) == 2 and is_name(value[1])
    if value[0] not in WORDS or len(value) != WORDS[value[0]] + 1:
        return False
    return all(reference.is_int(number) and number >= 0 for number in value[1:])


def rows_of(table):
    return {mover: dict(row) for mover, row in table[1]}


def table_with(primes, rows):
    moves = tuple((mover, tuple(sorted(rows[mover].items()))) for mover in sorted(rows) if rows[mover])
    return (tuple(sorted(primes)), moves)


class Model:
    """A live table, told once more, from [85] and [88]."""

    def __init__(self, table):
        self.begun = self.table = table
        self.events = []
        self.tables = []
        self.calls = 0

    def names(self):
        return {event[1]: table for event, table in zip(self.events, self.tables) if event[0] == "note"}

    def reason(self, event):
        """The first reason of [85] against any value as an event, None without one."""
        if not is_event(event):
            return "shape"
        if len(self.events) >= 40:
            return "full"
        primes, rows = self.table[0], rows_of(self.table)
        moved = {q for row in rows.values() for q in row}
        if event[0] == "note":
            return "name" if event[1] in self.names() else None
        if event[0] == "prime":
            if event[1] not in reference.PRIME_SET or event[1] in primes:
                return "prime"
            return "many" if len(primes) == 8 else None
        p = event[1]
        if p not in primes:
            return "prime"
        if event[0] == "power":
            if p not in rows:
                return "mover"
            return "power" if event[2] == 0 or event[2] >= p else None
        q = event[2]
        if q not in primes:
            return "prime"
        if event[0] == "drop":
            return None if q in rows.get(p, {}) else "moved"
        if p in moved:
            return "mover"
        if q == p or q in rows or q in rows.get(p, {}) or (q - 1) % p:
            return "moved"
        return None if 1 < event[3] < q and pow(event[3], p, q) == 1 else "root"

    def behind(self, event):
        """The table behind an event that is possible."""
        primes, rows = self.table[0], rows_of(self.table)
        if event[0] == "prime":
            primes = primes + event[1:]
        elif event[0] == "move":
            rows.setdefault(event[1], {})[event[2]] = event[3]
        elif event[0] == "drop":
            del rows[event[1]][event[2]]
        elif event[0] == "power":
            rows[event[1]] = {q: pow(root, event[2], q) for q, root in rows[event[1]].items()}
        return table_with(primes, rows)

    def take(self, event):
        self.tables.append(self.table)
        self.table = self.behind(event)
        self.events.append(event)

    def undo(self):
        self.table = self.tables.pop()
        return self.events.pop()

    def log(self):
        return (self.begun, tuple(self.events))


def some_primes(table):
    return list(table[0]) + [0, 1, 2, 3, 4, 7, 13, 9973, 10007]


def all_events(table):
    """Events of each form with the primes of a table and with others, possible or not."""
    primes = some_primes(table)
    found = [("prime", p) for p in primes + [5, 11, 31, 9999, 10**89]]
    found += [("note", name) for name in ("a", "m", "abcdefgh", "zz")]
    for p in primes:
        found += [("power", p, k) for k in (0, 1, 2, p - 1 if p else 3, p, p + 1, 10**89)]
        found += [("drop", p, q) for q in primes]
        for q in primes:
            roots = {0, 1, 2, q, q - 1 if q else 3}
            if p in reference.PRIME_SET and q in reference.PRIME_SET and p < q and (q - 1) % p == 0:
                roots |= {samples.some_root(p, q), samples.some_root(p, q, max(1, p - 1)), q + samples.some_root(p, q)}
            found += [("move", p, q, root) for root in sorted(roots)]
    return found


def no_events():
    """Values that are no events by form, near to such."""
    return [(), ("prime",), ("prime", 7, 7), ("prime", -1), ("prime", True), ("prime", "7"), ("prime", None), ["prime", 7],
            ("Prime", 7), ("move", 2, 3), ("move", 2, 3, 2, 2), ("move", 2, 3, True), ("move", 2, [3], 2), ("drop", 2),
            ("drop", 2, 3, 4), ("drop", False, 3), ("power", 2), ("power", 2, 1, 1), ("power", 2, -1), ("power", (2,), 1),
            ("note",), ("note", ""), ("note", "abcdefghi"), ("note", "A"), ("note", "a b"), ("note", "a1"), ("note", "a\n"),
            ("note", 1), ("note", None), ("note", ("a",)), ("note", ["a"]), ("note", "a", "b"), ("undo",), ("", 1), (None, 2),
            (("prime",), 2), (["prime"], 2), (True, 2), "prime", "prime 7", 7, None]


def script(table, count, seed=1):
    """So many events that are possible one behind another, and the model behind them."""
    model = Model(table)
    state = seed * 7919 + 1
    while len(model.events) < count:
        state = (state * 1103515245 + 12345) % (1 << 31)
        kind = (state >> 16) % 8
        choices = [event for event in all_events(model.table) if model.reason(event) is None]
        if kind < 3:
            choices = [event for event in choices if event[0] == "move"] or choices
        elif kind < 5:
            choices = [event for event in choices if event[0] in ("power", "drop")] or choices
        elif kind == 5:
            number = len(model.events)
            choices = [("note", "abcdefgh"[:number % 8 + 1] if number < 8 else "n" + chr(97 + number // 26) + chr(
                97 + number % 26))]
        if not choices or model.reason(choices[state % len(choices)]) is not None:
            choices = [("note", "x" + chr(97 + len(model.events) // 26) + chr(97 + len(model.events) % 26))]
        model.take(choices[state % len(choices)])
    return model


STARTS = (samples.NONE, samples.SIX, samples.TWO, samples.MIXED, samples.THREE, samples.PAIRED, samples.GREAT[0],
          samples.GREAT[3], samples.GREAT[5], ((2, 3, 5, 7, 11, 13, 31), ()))
