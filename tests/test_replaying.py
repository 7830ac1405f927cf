"""Logs, their lines, and live tables made of them ([82] [90], (W3))."""

import unittest

from tests import eventsamples, reference, samples, wrong
from tests.eventsamples import STARTS, all_events, is_event, is_name, no_events
from tests.support import Case
from tests.test_live import SCRIPTS, led, shown
from whoacts.errors import InvalidEvent, InvalidText, NotUsable
from whoacts.eventreadings import read_event, read_log
from whoacts.eventtexts import event_line, log_lines
from whoacts.live import LiveTable
from whoacts.replaying import is_log, replayed
from whoacts.tablereadings import table_read
from whoacts.tabletexts import table_text

NINE = (2, 3, 5, 7, 11, 13, 17, 19, 23)
FORMS = {"prime": 1, "move": 3, "drop": 2, "power": 2}
WORDS = ("", "0", "1", "7", "00", "07", "+7", "-7", "7 ", "7.0", "a", "A", "abcdefgh", "abcdefghi", "prime", "note", "move",
         "drop", "power", "/", "-", "2:", "7^6", "9" * 90, "1" + "0" * 89, "9" * 91, "1" + "0" * 90, "0" * 90, "7\n", "_", "1_0",
         "note\n")


def is_log_pair(value):
    """Whether a value is a log, as [82] says."""
    if type(value) is not tuple or len(value) != 2 or not reference.is_table(value[0]) or len(value[0][0]) > 8:
        return False
    return type(value[1]) is tuple and all(is_event(event) for event in value[1])


def is_number_word(word):
    return word != "" and set(word) <= set("0123456789") and len(word) <= 90 and (word == "0" or word[0] != "0")


def told(text):
    """The event that a string writes, or the field of the first word that cannot stand or is missing."""
    words = text.split(" ")
    forms = [word for word in ["note"] + list(FORMS) if word == words[0]]
    if not forms:
        return 0
    kinds = [is_name] if words[0] == "note" else [is_number_word] * FORMS[words[0]]
    for field, kind in enumerate(kinds, 1):
        if field == len(words) or not kind(words[field]):
            return field
    if len(words) > len(kinds) + 1:
        return len(kinds) + 1
    return tuple(words[:1]) + tuple(words[1:] if words[0] == "note" else [int(word) for word in words[1:]])


def changed_lines(text):
    """The text with a word left out, doubled, put in, changed; with words turned and with signs and spaces."""
    words = text.split(" ")
    for k in range(len(words) + 1):
        for word in WORDS:
            yield " ".join(words[:k] + [word] + words[k:])
            yield " ".join(words[:k] + [word] + words[k + 1:])
        yield " ".join(words[:k] + words[k + 1:])
        yield " ".join(words[:k])
        yield " ".join(words[:k] + words[k:k + 1] + words[k:])
        yield "  ".join([" ".join(words[:k]), " ".join(words[k:])])
    yield from (" " + text, text + " ", text + "\n", "\n" + text, text.upper(), text.title(), text * 2, text[:-1], text[1:])
    yield " ".join(words[::-1])


class Lines(Case):
    def reads(self, text):
        """read_event tells of a string what the document says."""
        expected = told(text)
        if isinstance(expected, tuple):
            self.same(read_event(text=text), expected)
            self.same(event_line(event=expected), text)
        else:
            self.raises(InvalidText, {"line": 0, "field": expected}, read_event, text)

    def test_events_are_written_and_read(self):
        for table in STARTS:
            for event in all_events(table)[::3]:
                line = event_line(event)
                self.same(line, " ".join(str(each) for each in event))
                self.same(read_event(line), event)

    def test_each_line_with_a_word_changed(self):
        for event in (("prime", 7), ("prime", 0), ("move", 2, 7, 6), ("drop", 2, 3), ("power", 3, 2), ("note", "m"),
                      ("note", "prime"), ("move", 10**89, 0, 9), ("undo",)):
            for text in changed_lines(" ".join(str(each) for each in event)):
                self.reads(text)

    def test_strings(self):
        for text in wrong.texts() + ["prime", "prime ", " prime 7", "note", "note ", "move 2 7", "move 2 7 ", "note a b",
                                     "prime 7 8", "table 2 3", "undo", "log", "note a ", "note  a", "drop 2 3\n"]:
            self.reads(text)

    def test_greatest_numbers(self):
        self.same(read_event("prime " + "9" * 90), ("prime", 10**90 - 1))
        self.same(read_event("move 0 0 " + "1" + "0" * 89), ("move", 0, 0, 10**89))
        self.raises(InvalidText, {"line": 0, "field": 1}, read_event, "prime " + "9" * 91)
        self.raises(InvalidText, {"line": 0, "field": 3}, read_event, "move 0 0 1" + "0" * 90)
        self.raises(InvalidText, {"line": 0, "field": 2}, read_event, "power 0 " + "0" * 2)

    def test_wrong_inputs(self):
        for value in wrong.any_values():
            if not isinstance(value, str):
                self.raises(NotUsable, {"word": "text", "at": -1}, read_event, value)
                self.raises(NotUsable, {"word": "text", "at": -1}, read_event, text=value)
        for value in wrong.any_values() + no_events():
            self.raises(NotUsable, {"word": "event", "at": -1}, event_line, value)
            self.raises(NotUsable, {"word": "event", "at": -1}, event_line, event=value)


class Logs(Case):
    def test_logs(self):
        for model in SCRIPTS:
            self.same(is_log(value=model.log()), True)
            table, events = model.log()
            for value in (list(model.log()), (table,), (table, list(events)), (events, table), (table, events, events), table,
                          events, (table, events + (None,)), (table, (None,) + events), (table, events + ([],)), (None, events),
                          (table, None)):
                self.same(is_log(value), is_log_pair(value), value)

    def test_however_many_events(self):
        self.same(is_log((samples.SIX, (("prime", 7),) * 5000)), True)
        self.same(is_log((samples.SIX, (("note", "a"),) * 41)), True)
        self.same(is_log((samples.SIX, (("prime", 7),) * 5000 + (("prime",),))), False)

    def test_at_most_eight_primes(self):
        self.same([is_log(((NINE[:8], ()), ())), is_log(((NINE, ()), ()))], [True, False])
        for call in (replayed, log_lines):
            self.raises(NotUsable, {"word": "log", "at": -1}, call, ((NINE, ()), ()))

    def test_any_value(self):
        for value in wrong.any_values():
            before = repr(value)
            for other in (value, (value, ()), (samples.SIX, value), (samples.SIX, (value,)), (samples.SIX, (("prime", value),)),
                          (samples.SIX, (("prime", 7), ("note", value))), (value, value), [samples.SIX, value]):
                self.same(is_log(other), is_log_pair(other))
                if not is_log_pair(other):
                    for call in (replayed, log_lines):
                        self.raises(NotUsable, {"word": "log", "at": -1}, call, other)
            self.assertEqual(repr(value), before)

    def test_each_change_of_a_log(self):
        for value in wrong.changed((samples.SIX, (("prime", 7), ("move", 2, 7, 6), ("note", "m"), ("power", 2, 1)))):
            self.same(is_log(value), is_log_pair(value))
            if not is_log_pair(value):
                self.raises(NotUsable, {"word": "log", "at": -1}, replayed, value)
                continue
            lines = log_lines(value)
            if all(number < 10**90 for event in value[1] for number in event[1:] if isinstance(number, int)):
                self.same(read_log(lines), value)

    def test_lines_and_back(self):
        for model in SCRIPTS:
            lines = log_lines(log=model.log())
            self.assertIs(type(lines), list)
            self.same(lines, [table_text(model.begun)] + [event_line(event) for event in model.events])
            self.same(read_log(lines=lines), model.log())
            self.same(log_lines(read_log(lines)), lines)

    def test_lines_of_logs_that_are_not_possible(self):
        for events in ((("prime", 4),) * 41, (("move", 0, 0, 0), ("note", "a"), ("note", "a")), (("drop", 10**89, 1),)):
            self.same(read_log(log_lines((samples.SIX, events))), (samples.SIX, events))


class Reading(Case):
    def reads(self, lines):
        """read_log tells of a list of strings what the document says, with table_read and the lines of events."""
        before = list(lines)
        fault = self.first_fault(lines)
        if fault is None:
            events = tuple(told(line) for line in lines[1:])
            self.same(read_log(lines), (table_read(lines[0]), events))
        else:
            self.raises(InvalidText, fault, read_log, lines)
        self.same(lines, before)

    def first_fault(self, lines):
        if not lines:
            return {"line": 0, "field": 0}
        words = lines[0].split(" ")
        try:
            primes = table_read(lines[0])[0]
            field = 8 if len(primes) > 8 else None
        except InvalidText as error:
            # Eight primes can stand ahead of a word /, whatever is behind it.
            nine = error.field > 8 and "/" not in words[:9]
            field = 8 if nine else error.field
        if field is not None:
            return {"line": 0, "field": field}
        for line, text in enumerate(lines[1:], 1):
            if not isinstance(told(text), tuple):
                return {"line": line, "field": told(text)}
        return None

    def test_each_line_with_a_word_changed(self):
        for log in ((samples.SIX, (("prime", 7), ("move", 2, 7, 6), ("note", "m"))), (samples.NONE, (("prime", 2),)),
                    (samples.MIXED, (("power", 3, 2), ("drop", 2, 5)))):
            lines = log_lines(log)
            self.reads(lines)
            for k, line in enumerate(lines):
                for text in changed_lines(line):
                    self.reads(lines[:k] + [text] + lines[k + 1:])
                    if k % 2:
                        self.reads(lines[:k] + [text, "x"] + lines[k + 1:])

    def test_lines_left_out_doubled_and_turned(self):
        for model in SCRIPTS[:8]:
            lines = log_lines(model.log())[:12]
            for k in range(len(lines)):
                self.reads(lines[:k])
                self.reads(lines[:k] + lines[k + 1:])
                self.reads(lines[:k] + [lines[k]] + lines[k:])
                self.reads(lines[:k] + [""] + lines[k:])
                self.reads(lines[k:] + lines[:k])

    def test_a_ninth_prime(self):
        line = " ".join(str(prime) for prime in NINE)
        fields = {"line": 0, "field": 8}
        for text in (line, line + " / 2: 3^2", line + " x", line + " /", line + " 4", line + " 3", line[:-2] + "29 31",
                     line[:-2] + "x", line[:-2], line[:-2] + "19"):
            self.raises(InvalidText, fields, read_log, [text])
            self.raises(InvalidText, fields, read_log, [text, "x"])
        self.same(read_log([line[:-3]]), ((NINE[:8], ()), ()))
        self.same(read_log([line[:-3] + " / 2: 3^2"]), ((NINE[:8], ((2, ((3, 2),)),)), ()))
        self.raises(InvalidText, {"line": 0, "field": 9}, read_log, [line[:-3] + " /"])
        self.raises(InvalidText, {"line": 0, "field": 2}, read_log, ["2 3 3 7 11 13 17 19 23"])
        self.same(table_read(line), (NINE, ()))

    def test_no_lines_and_no_words(self):
        for lines, line, field in (([], 0, 0), ([""], 0, 0), (["", "x"], 0, 0), (["-", ""], 1, 0), (["- 2"], 0, 1),
                                   (["2 3 /"], 0, 3), (["2", "prime 3", "note"], 2, 1), (["2", "x", ""], 1, 0)):
            self.raises(InvalidText, {"line": line, "field": field}, read_log, lines)
        self.same(read_log(["-"]), (samples.NONE, ()))

    def test_wrong_inputs(self):
        for value in wrong.any_values():
            if type(value) is list and all(isinstance(text, str) for text in value):
                self.reads(value)
                continue
            self.raises(NotUsable, {"word": "lines", "at": -1}, read_log, value)
            self.raises(NotUsable, {"word": "lines", "at": -1}, read_log, lines=value)
        for value in wrong.any_values():
            if not isinstance(value, str):
                for lines in ([value], ["-", value], ["x", "", value], [value, "x"]):
                    self.raises(NotUsable, {"word": "lines", "at": -1}, read_log, lines)
        for lines in ("2 3", ("2 3",), ("2 3", "prime 7"), [["2 3"]], [("2 3",)], ["2 3", ["prime 7"]]):
            self.raises(NotUsable, {"word": "lines", "at": -1}, read_log, lines)


class Replayed(Case):
    def test_equal_to_the_live_table(self):
        for model in SCRIPTS:
            live = led(model)
            other = replayed(log=live.log())
            self.assertIs(other.__class__, LiveTable)
            self.same([other == live, other.tally()], [True, (0, 0)])
            self.same(shown(other), shown(live))
            self.same(shown(replayed(read_log(str(live).split("\n")))), shown(live))
            if len(live) < 40:
                other.note("late")
                self.same([other == live, other.tally(), len(other) - len(live)], [False, (1, 1), 1])

    def test_behind_undone_events(self):
        live = LiveTable(samples.SIX)
        live.do_all(("prime", 7), ("note", "a"), ("move", 2, 7, 6))
        live.undo()
        live.drop(2, 3)
        self.same(live.log(), (samples.SIX, (("prime", 7), ("note", "a"), ("drop", 2, 3))))
        self.same(replayed(live.log()) == live, True)

    def test_events_that_are_not_possible(self):
        for model in SCRIPTS:
            table, events = model.log()
            for at in (0, len(events) // 2, len(events)):
                trial = eventsamples.Model(table)
                for event in events[:at]:
                    trial.take(event)
                for late in (("prime", 4), ("power", 0, 0), ("move", 0, 0, 0), ("drop", 7, 2)):
                    fields = {"event": late, "reason": trial.reason(late)}
                    self.raises(InvalidEvent, fields, replayed, (table, events[:at] + (late, ("prime", 1)) + events[at:]))

    def test_behind_forty_others(self):
        for late in (("prime", 7), ("prime", 4), ("note", "a")):
            fields = {"event": late, "reason": "full"}
            self.raises(InvalidEvent, fields, replayed, (samples.SIX, (("power", 2, 1),) * 40 + (late, ("prime", 9))))
        self.same(len(replayed((samples.SIX, (("power", 2, 1),) * 40))), 40)
        events = (("power", 2, 1),) * 39 + (("prime", 4),) + (("power", 2, 1),) * 9
        self.raises(InvalidEvent, {"event": ("prime", 4), "reason": "prime"}, replayed, (samples.SIX, events))


if __name__ == "__main__":
    unittest.main()
