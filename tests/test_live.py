"""Live tables ([84] to [89])."""

import unittest

from tests import reference, samples, wrong
from tests.eventsamples import Model, STARTS, all_events, no_events, script
from tests.support import Case
from whoacts.allcounts import counts_alike, counts_of
from whoacts.classcounts import chance_of
from whoacts.counts import all_parts, turning_count
from whoacts.errors import InvalidEvent, NothingToUndo, NotUsable
from whoacts.eventtexts import log_lines
from whoacts.likeness import are_alike
from whoacts.live import LiveTable
from whoacts.replaying import replayed
from whoacts.tablechanges import powered, with_move, with_prime, without_move
from whoacts.twisting import twisted_count

SCRIPTS = [script(table, count, seed) for table in STARTS for count, seed in ((9, 1), (40, 2))]


def led(model):
    """A live table behind the events of a model, by go."""
    live = LiveTable(model.begun)
    for event in model.events:
        live.go(event)
    return live


def shown(live):
    """All that a live table shows of itself, but its tally."""
    return (live.table_now, live.begun_now, live.log(), live.notes(), list(live), len(live), str(live),
            [live.table_then(name) for name in live.notes()])


def by_name(live, event):
    """Apply an event by the method of its name."""
    return getattr(live, event[0])(*event[1:])


class Live(Case):
    def agrees(self, live, model):
        """A live table shows what the model is."""
        names = tuple(sorted(model.names()))
        self.same(shown(live), (model.table, model.begun, model.log(), names, reference.web(model.table), len(model.events),
                                "\n".join(log_lines(model.log())), [model.names()[name] for name in names]))

    def refuses(self, live, model, event, reason):
        """The event is refused for this reason, handed in as it is, and nothing changes but the tally."""
        before = shown(live)
        calls = live.tally()[0]
        for call in (live.go, live, live.do_all, lambda event: live.do_all(event, keep=True)):
            self.raises(InvalidEvent, {"event": event, "reason": reason}, call, event)
        self.raises(InvalidEvent, {"event": event, "reason": reason}, live.tried, event)
        try:
            live.go(event)
        except InvalidEvent as error:
            self.assertIs(error.event, event)
        self.same(live.tally(), (calls + 5, calls + 5))
        self.same(shown(live), before)


class Events(Live):
    def test_reasons(self):
        reasons = set()
        for model in SCRIPTS:
            live = led(model)
            self.agrees(live, model)
            for k, event in enumerate(all_events(model.table)):
                reason = model.reason(event)
                self.same(live.barred(event), reason, (model.table, event))
                if reason is not None and (k % 37 == 0 or (reason not in reasons)):
                    self.refuses(live, model, event, reason)
                    fields = {"event": event, "reason": reason}
                    self.raises(InvalidEvent, fields, getattr(live, event[0]), *event[1:])
                    reasons.add(reason)
                if reason is None and k % 9 == 0:
                    self.same(live.tried(event), model.behind(event))
            self.agrees(live, model)
        self.same(sorted(reasons), ["full", "many", "moved", "mover", "name", "power", "prime", "root"])

    def test_reasons_before_any_event(self):
        for table in STARTS + samples.SMALL:
            live, model = LiveTable(table), Model(table)
            for event in all_events(table) + no_events():
                self.same(live.barred(event), model.reason(event), (table, event))

    def test_shape(self):
        for model in SCRIPTS[:6]:
            live = led(model)
            for value in no_events():
                self.same(live.barred(value), "shape")
                self.refuses(live, model, value, "shape")
            for value in wrong.any_values():
                self.same(live.barred(event=value), "shape")
                self.raises(InvalidEvent, {"event": value, "reason": "shape"}, live.go, value)
            self.agrees(live, model)

    def test_shape_of_what_the_methods_are_handed(self):
        for table in (samples.SIX, samples.NONE):
            live, model = LiveTable(table), Model(table)
            for value in wrong.any_values():
                for event in (("prime", value), ("note", value), ("move", value, 3, 2), ("move", 2, value, 2),
                              ("move", 2, 3, value), ("drop", value, 3), ("drop", 2, value), ("power", value, 1),
                              ("power", 2, value), ("move", value, value, value)):
                    reason = model.reason(event)
                    self.same(live.barred(event), reason)
                    if reason is None:
                        by_name(live, event)
                        self.same(live.undo(), event)
                        continue
                    fields = {"event": event, "reason": reason}
                    self.raises(InvalidEvent, fields, getattr(live, event[0]), *event[1:])
                    try:
                        by_name(live, event)
                    except InvalidEvent as error:
                        self.assertTrue(all(got is part for got, part in zip(error.event[1:], event[1:])))
            self.agrees(live, model)

    def test_by_name_of_the_parameters(self):
        live = LiveTable(table=((2, 3), ()))
        self.same([live.go(event=("note", "a")), live.prime(p=7), live.move(p=3, q=7, root=2), live.power(p=3, k=2),
                   live.note(name="b"), live.drop(p=3, q=7)], [None] * 6)
        self.same(live.log(), (((2, 3), ()), (("note", "a"), ("prime", 7), ("move", 3, 7, 2), ("power", 3, 2), ("note", "b"),
                                              ("drop", 3, 7))))
        self.same(live.table_then(name="b"), ((2, 3, 7), ((3, ((7, 4),)),)))

    def test_which_reason_comes_first(self):
        live = LiveTable(((2, 3, 5, 7, 11, 13, 17, 31), ((2, ((7, 6),)), (3, ((7, 2), (13, 3))))))
        live.note("m")
        for event, reason in (
                (("prime", 4), "prime"), (("prime", 2), "prime"), (("prime", 19), "many"), (("prime", 10007), "prime"),
                (("move", 19, 23, 0), "prime"), (("move", 7, 19, 0), "prime"), (("move", 7, 7, 0), "mover"),
                (("move", 13, 3, 0), "mover"), (("move", 2, 2, 0), "moved"), (("move", 2, 3, 2), "moved"),
                (("move", 2, 7, 0), "moved"), (("move", 5, 13, 3), "moved"), (("move", 5, 2, 0), "moved"),
                (("move", 2, 13, 0), "root"), (("move", 2, 13, 1), "root"), (("move", 2, 13, 25), "root"),
                (("move", 2, 13, 12), None), (("move", 17, 2, 0), "moved"), (("move", 11, 31, 2), "moved"),
                (("drop", 19, 7), "prime"), (("drop", 2, 19), "prime"), (("drop", 5, 7), "moved"), (("drop", 7, 2), "moved"),
                (("drop", 2, 13), "moved"), (("drop", 2, 7), None), (("power", 19, 0), "prime"), (("power", 7, 0), "mover"),
                (("power", 5, 0), "mover"), (("power", 3, 0), "power"), (("power", 3, 3), "power"), (("power", 3, 2), None),
                (("power", 2, 1), None), (("power", 2, 2), "power"), (("note", "m"), "name"), (("note", "n"), None),
                (("note", "M"), "shape"), (("prime", -19), "shape"), (("move", 19, 23), "shape")):
            self.same(live.barred(event), reason, event)
        for k in range(39):
            live.power(2, 1)
        for event in (("prime", 4), ("move", 7, 7, 0), ("power", 2, 1), ("note", "m"), ("note", "n"), ("drop", 2, 7)):
            self.same(live.barred(event), "full")
        self.same([live.barred(("note", "M")), live.barred(None), live.barred(["prime", 4])], ["shape"] * 3)

    def test_each_event_is_as_the_function_of_tables(self):
        calls = {"prime": with_prime, "move": with_move, "drop": without_move, "power": powered}
        for model in SCRIPTS:
            live = LiveTable(model.begun)
            for event in model.events:
                table = live.table_now
                live.go(event)
                expected = table if event[0] == "note" else calls[event[0]](table, *event[1:])
                self.same(live.table_now, expected)

    def test_all_ways_lead_to_the_same(self):
        for model in SCRIPTS:
            live = led(model)
            called, named, done, kept = [LiveTable(model.begun) for _ in range(4)]
            for event in model.events:
                self.same(called(event), None)
                self.same(by_name(named, event), None)
            self.same(done.do_all(*model.events), len(model.events))
            self.same(kept.do_all(*model.events, keep=True), len(model.events))
            for other in (called, named, done, kept, replayed(live.log())):
                self.agrees(other, model)
                self.same([other == live, live == other], [True, True])
            self.same(LiveTable(model.begun).tried(*model.events), model.table)


class Undo(Live):
    def test_back_to_the_beginning(self):
        for model in SCRIPTS:
            live = led(model)
            other = Model(model.begun)
            for event in model.events:
                other.take(event)
            while other.events:
                self.same(live.undo(), other.undo())
                self.agrees(live, other)
            self.raises(NothingToUndo, {"steps": 0}, live.undo)
            self.agrees(live, other)
            self.same(live.table_now, model.begun)
            self.same(live == LiveTable(model.begun), True)
            for event in model.events:
                live.go(event)
            self.agrees(live, model)

    def test_a_note_goes_with_its_own_event(self):
        live = LiveTable(samples.SIX)
        live.do_all(("note", "a"), ("prime", 7), ("note", "b"), ("move", 2, 7, 6))
        self.same([live.undo(), live.notes()], [("move", 2, 7, 6), ("a", "b")])
        self.same([live.undo(), live.notes()], [("note", "b"), ("a",)])
        self.raises(NotUsable, {"word": "name", "at": -1}, live.table_then, "b")
        live.undo()
        self.same([live.notes(), live.table_then("a")], [("a",), samples.SIX])
        live.note("b")
        self.same([live.table_then("b"), live.undo(), live.undo(), live.notes()],
                  [samples.SIX, ("note", "b"), ("note", "a"), ()])

    def test_nothing_to_undo(self):
        live = LiveTable()
        self.raises(NothingToUndo, {"steps": 0}, live.undo)
        self.same([live.tally(), live.table_now, live.log()], [(1, 1), samples.NONE, (samples.NONE, ())])


class Tried(Live):
    def test_tried_changes_nothing(self):
        for model in SCRIPTS:
            for cut in (0, len(model.events) // 2, len(model.events)):
                live = LiveTable(model.begun)
                live.do_all(*model.events[:cut])
                before = shown(live), live.tally()
                self.same(live.tried(*model.events[cut:]), model.table)
                self.same(live.tried(), live.table_now)
                self.same((shown(live), live.tally()), before)

    def test_the_first_error(self):
        live = LiveTable(samples.SIX)
        before = shown(live), live.tally()
        for events, at, reason in (
                ((("prime", 7), ("prime", 7)), 1, "prime"), ((("note", "a"), ("note", "b"), ("note", "a"), None), 2, "name"),
                ((("drop", 2, 3), ("power", 2, 1), ("move", 2, 3, 1)), 1, "mover"), (([], None), 0, "shape"),
                ((("prime", 7), ("move", 2, 7, 6), ("move", 3, 7, 2), None), 2, "mover"),
                ((("note", "a"),) + (("power", 2, 1),) * 40, 40, "full")):
            self.raises(InvalidEvent, {"event": events[at], "reason": reason}, live.tried, *events)
            self.same((shown(live), live.tally()), before)

    def test_many_primes_in_one_call(self):
        live = LiveTable()
        events = [("prime", p) for p in (2, 3, 5, 7, 11, 13, 17, 19, 23)]
        self.same(live.tried(*events[:8]), ((2, 3, 5, 7, 11, 13, 17, 19), ()))
        self.raises(InvalidEvent, {"event": ("prime", 23), "reason": "many"}, live.tried, *events)


class DoAll(Live):
    def test_with_and_without_keep(self):
        wrongs = (("power", 2, 0), ("prime", 4), None, ("note", ""), ("move", 0, 0, 0), ["note", "q"])
        for model in SCRIPTS[:14]:
            for at in (0, 3, len(model.events) // 2, len(model.events)):
                for late in wrongs:
                    events = model.events[:at] + [late] + model.events[at:]
                    trial = Model(model.begun)
                    for event in model.events[:at]:
                        trial.take(event)
                    reason = trial.reason(late)
                    self.assertIsNotNone(reason)
                    live = LiveTable(model.begun)
                    self.raises(InvalidEvent, {"event": late, "reason": reason}, live.do_all, *events)
                    self.agrees(live, Model(model.begun))
                    self.raises(InvalidEvent, {"event": late, "reason": reason}, live.do_all, *events, keep=False)
                    self.agrees(live, Model(model.begun))
                    self.raises(InvalidEvent, {"event": late, "reason": reason}, live.do_all, *events, keep=True)
                    self.agrees(live, trial)
                    self.same(live.tally(), (3, 3))

    def test_keep_that_is_no_bool(self):
        live = LiveTable(samples.SIX)
        for value in wrong.any_values():
            if isinstance(value, bool):
                continue
            for events in ((), (("prime", 7),), (None,)):
                calls = live.tally()[0]
                self.raises(NotUsable, {"word": "keep", "at": -1}, live.do_all, *events, keep=value)
                self.same(live.tally(), (calls + 1, calls + 1))
        self.agrees(live, Model(samples.SIX))

    def test_no_events(self):
        live = LiveTable(samples.SIX)
        self.same([live.do_all(), live.do_all(keep=True), live.do_all(keep=False), live.tally()], [0, 0, 0, (3, 3)])
        self.agrees(live, Model(samples.SIX))


class Full(Live):
    def test_forty_events(self):
        live = LiveTable(samples.SIX)
        for k in range(40):
            self.same(live.barred(("power", 2, 1)), None)
            live.power(2, 1)
        self.same([live.barred(("power", 2, 1)), live.barred(("note", "a")), len(live)], ["full", "full", 40])
        fields = {"event": ("power", 2, 1), "reason": "full"}
        self.raises(InvalidEvent, fields, live.power, 2, 1)
        self.raises(InvalidEvent, fields, live.tried, ("power", 2, 1))
        live.undo()
        self.same(live.barred(("power", 2, 1)), None)
        live.power(2, 1)
        self.raises(InvalidEvent, fields, live, ("power", 2, 1))

    def test_in_one_call(self):
        for ahead in (0, 1, 17, 39, 40):
            live = LiveTable(samples.SIX)
            live.do_all(*[("power", 2, 1)] * ahead)
            late = ("prime", 7)
            events = [("power", 2, 1)] * (40 - ahead) + [late]
            fields = {"event": late, "reason": "full"}
            self.raises(InvalidEvent, fields, live.do_all, *events)
            self.same(len(live), ahead)
            self.raises(InvalidEvent, fields, live.tried, *events)
            self.same(live.tried(*events[:-1]), samples.SIX)
            self.raises(InvalidEvent, fields, live.do_all, *events, keep=True)
            self.same([len(live), live.table_now], [40, samples.SIX])

    def test_most_is_told_on_the_class(self):
        self.same([LiveTable.MOST, LiveTable(samples.SIX).MOST], [40, 40])


class Tally(Live):
    def test_each_call(self):
        live = LiveTable(samples.SIX)
        count = 0
        for call, args, named in (
                (live.go, (("prime", 7),), {}), (live, (("move", 2, 7, 6),), {}), (live.prime, (11,), {}),
                (live.move, (2, 11, 10), {}), (live.drop, (2, 3), {}), (live.power, (2, 1), {}), (live.note, ("a",), {}),
                (live.undo, (), {}), (live.do_all, (("note", "b"), ("note", "c")), {}), (live.do_all, (), {"keep": True}),
                (live.go, (None,), {}), (live, (None,), {}), (live.prime, (7,), {}), (live.move, (2, 7, 6), {}),
                (live.drop, (2, 3), {}), (live.power, (2, 0), {}), (live.note, ("b",), {}), (live.do_all, (None, None), {}),
                (live.do_all, (("note", "d"), None), {"keep": True}), (live.do_all, (None,), {"keep": 1}),
                (live.do_all, (None,), {"keep": None})):
            count += 1
            try:
                call(*args, **named)
            except (InvalidEvent, NotUsable):
                pass
            self.same(live.tally(), (count, count), call)
        while len(live):
            live.undo()
            count += 1
        for _ in range(3):
            self.raises(NothingToUndo, {"steps": 0}, live.undo)
            count += 1
        self.same(live.tally(), (count, count))

    def test_what_does_not_count(self):
        live = LiveTable(samples.SIX)
        live.note("a")
        for use in (live.plain, live.chance, live.parts, live.turnings, lambda: live.twisted(2), lambda: live.table_then("a"),
                    lambda: live.alike_then("a"), lambda: live.counts_then("a"), lambda: live.barred(None),
                    lambda: live.tried(("prime", 7)), live.tally, live.notes, live.log, lambda: live[2], lambda: (2, 3) in live,
                    lambda: list(live), lambda: len(live), lambda: live == live, lambda: str(live), lambda: live.table_now,
                    lambda: live.begun_now):
            use()
            self.same(live.tally(), (1, 1))
        for use in (lambda: live.twisted(-1), lambda: live.table_then("b"), lambda: live.tried(None), lambda: live[5],
                    lambda: live.alike_then(None), lambda: live.counts_then([])):
            with self.assertRaises((NotUsable, InvalidEvent)):
                use()
            self.same(live.tally(), (1, 1))
        self.same(LiveTable(samples.SIX).tally(), (0, 0))


class Counts(Live):
    def test_against_the_functions(self):
        for model in SCRIPTS:
            live = led(model)
            now = model.table
            self.same(live.plain(), counts_of(now))
            self.same(live.chance(), chance_of(now))
            self.same(live.parts(), all_parts(now))
            self.same(live.turnings(), turning_count(now))
            for r in (0, 1, 2, 16, 10**89, reference.number(now) - 1):
                self.same(live.twisted(r=r), twisted_count(now, r))
            for name, then in model.names().items():
                self.same(live.table_then(name), then)
                self.same(live.alike_then(name=name), are_alike(now, then))
                expected = now[0] == then[0] and counts_alike(now, then) and counts_of(now) == counts_of(then)
                self.same(live.counts_then(name=name), expected)

    def test_alike_and_counts(self):
        live = LiveTable(samples.TWO)
        live.note("m")
        live.do_all(("drop", 3, 13), ("move", 3, 13, 9))
        self.same([live.alike_then("m"), live.counts_then("m")], [False, True])
        live.power(3, 2)
        live.note("n")
        self.same([live.alike_then("m"), live.counts_then("m"), live.alike_then("n")], [False, True, True])
        live.do_all(("drop", 3, 13), ("move", 3, 13, 9))
        self.same([live.alike_then("m"), live.counts_then("m"), live.alike_then("n")], [True, True, False])
        live.prime(2)
        self.same([live.alike_then("m"), live.counts_then("m")], [False, False])
        live.undo()
        live.drop(3, 7)
        self.same([live.alike_then("m"), live.counts_then("m"), live.table_then("m")], [False, False, samples.TWO])

    def test_names_that_are_none(self):
        live = LiveTable(samples.SIX)
        live.note("m")
        for call in (live.table_then, live.alike_then, live.counts_then):
            for value in wrong.any_values() + ["n", "M", "mm", ("m",), ["m"], ("note", "m")]:
                self.raises(NotUsable, {"word": "name", "at": -1}, call, value)

    def test_twisted_of_other_values(self):
        live = LiveTable(samples.SIX)
        for value in wrong.any_values():
            if wrong.number({}, value):
                self.same(live.twisted(value), twisted_count(samples.SIX, value))
            else:
                self.raises(NotUsable, {"word": "r", "at": -1}, live.twisted, value)


class Signs(Live):
    def test_rows(self):
        for model in SCRIPTS:
            live = led(model)
            for prime in model.table[0]:
                self.same(live[prime], dict(model.table[1]).get(prime, ()))
            for value in wrong.any_values():
                if reference.is_int(value) and value in model.table[0]:
                    continue
                self.raises(NotUsable, {"word": "prime", "at": -1}, lambda at: live[at], value)

    def test_in_and_iteration(self):
        for model in SCRIPTS:
            live = led(model)
            web = reference.web(model.table)
            self.same([list(live), [pair for pair in live], tuple(live)], [web, web, tuple(web)])
            self.same([pair in live for pair in web], [True] * len(web))
            for pair in web:
                self.same([list(pair) in live, pair[::-1] in live, pair + (1,) in live], [False] * 3)
            for value in wrong.any_values():
                self.same(value in live, repr(value) in [repr(pair) for pair in web])

    def test_length_and_text(self):
        for model in SCRIPTS:
            live = led(model)
            self.same([len(live), str(live)], [len(model.events), "\n".join(log_lines(model.log()))])
        self.same([len(LiveTable()), str(LiveTable()), list(LiveTable())], [0, "-", []])

    def test_equality(self):
        for model in SCRIPTS:
            live = led(model)
            for other in SCRIPTS:
                self.same(live == led(other), model is other)
                self.same(live != led(other), model is not other)
        # Two live tables with one table now, but with other logs.
        one, other = LiveTable(samples.SIX), LiveTable(samples.SIX)
        one.power(2, 1)
        self.same([one == other, one.table_now == other.table_now], [False, True])
        one.undo()
        self.same([one == other, one == samples.SIX, one == None, samples.SIX == one], [True, False, False, False])  # noqa: E711
        begun = LiveTable(((2, 3, 7), samples.SIX[1]))
        one.prime(7)
        self.same([one == begun, one.table_now == begun.table_now], [False, True])
        # Two with the same events, but other beginnings.
        begun.do_all(("prime", 11), ("note", "a"))
        late = LiveTable(samples.SIX)
        late.do_all(("prime", 11), ("note", "a"))
        self.same([late == begun, begun == late, LiveTable() == LiveTable(samples.SIX)], [False] * 3)
        for value in wrong.any_values() + [str(one), one.log()]:
            self.same([one == value, value == one], [False, False])

    def test_two_live_tables_know_nothing_of_one_another(self):
        for model in SCRIPTS[::3]:
            live, other = led(model), led(model)
            late = LiveTable(model.begun)
            while len(live):
                live.undo()
            live.note("only")
            self.agrees(other, model)
            self.agrees(late, Model(model.begun))
            self.same([other.tally()[0], late.tally()[0]], [len(model.events), 0])
            self.raises(NotUsable, {"word": "name", "at": -1}, other.table_then, "only")

    def test_what_is_returned_belongs_to_the_caller(self):
        live = LiveTable(samples.SIX)
        live.note("a")
        log, notes, lines = live.log(), live.notes(), list(live)
        lines.append(1)
        live.prime(7)
        live.note("b")
        self.same([log, notes], [(samples.SIX, (("note", "a"),)), ("a",)])
        self.same(list(live), [(2, 3)])
        for name in ("table_now", "begun_now"):
            with self.assertRaises(AttributeError):
                setattr(live, name, ())


class Beginning(Live):
    def test_tables(self):
        for table in samples.SMALL + samples.MIDDLE + samples.GREAT + samples.DOCUMENT:
            live = LiveTable(table)
            self.agrees(live, Model(table))
            self.same(live.tally(), (0, 0))
        self.agrees(LiveTable(), Model(samples.NONE))

    def test_other_values(self):
        for value in wrong.any_values():
            if not reference.is_table(value):
                self.raises(NotUsable, {"word": "table", "at": -1}, LiveTable, value)
                self.raises(NotUsable, {"word": "table", "at": -1}, LiveTable, table=value)
        nine = ((2, 3, 5, 7, 11, 13, 17, 19, 23), ())
        self.raises(NotUsable, {"word": "table", "at": -1}, LiveTable, nine)
        self.same(LiveTable((nine[0][:8], ())).table_now, (nine[0][:8], ()))


if __name__ == "__main__":
    unittest.main()
