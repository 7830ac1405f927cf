"""A desk ([91])."""

import unittest

from tests import reference, wrong
from tests.eventsamples import Model, is_event, is_name
from tests.support import Case
from tests.test_live import SCRIPTS
from tests.test_replaying import NINE, changed_lines, is_number_word, told
from whoacts.classcounts import chance_of
from whoacts.counts import all_parts, turning_count
from whoacts.desk import Desk
from whoacts.errors import InvalidEvent, InvalidRow, InvalidText, NothingToUndo, NotUsable
from whoacts.eventtexts import event_line, log_lines
from whoacts.likeness import are_alike
from whoacts.tablereadings import table_read
from whoacts.tabletexts import table_text
from whoacts.twisting import twisted_count

PLAIN = ("undo", "table", "web", "chance", "parts", "turnings", "log")
NAMED = ("alike", "counts", "then")


def desk_behind(model):
    """A desk at which the events of a model were said."""
    desk = Desk()
    desk.say("table " + table_text(model.begun))
    for event in model.events:
        desk.say(event_line(event))
    return desk


def table_told(value):
    """The table of table TEXT, None for any other value."""
    if not isinstance(value, str) or not value.startswith("table "):
        return None
    try:
        table = table_read(value[6:])
    except InvalidText:
        return None
    return table if len(table[0]) <= 8 else None


def is_row(value):
    """Whether a desk with a live table understands any value, but for table TEXT."""
    if not isinstance(value, str):
        return False
    words = value.split(" ")
    if value in PLAIN or isinstance(told(value), tuple):
        return True
    if words[0] == "bars":
        return isinstance(told(value[5:]), tuple) and value[:5] == "bars "
    if words[0] == "twisted":
        return len(words) == 2 and is_number_word(words[1])
    return words[0] in NAMED and len(words) == 2 and is_name(words[1])


def answer(model, row):
    """What a desk answers to a row that it understands, None where an error of the live table is raised."""
    words = row.split(" ")
    now, names = model.table, model.names()
    if words[0] in NAMED and words[1] not in names:
        return None
    if words[0] == "undo":
        return event_line(model.events[-1]) if model.events else None
    if isinstance(told(row), tuple):
        return None if model.reason(told(row)) else "ok"
    if words[0] == "bars":
        return model.reason(told(row[5:])) or "-"
    then = names.get(words[-1])
    return {"table": lambda: table_text(now), "web": lambda: " ".join(f"{p}:{q}" for p, q in reference.web(now)) or "-",
            "chance": lambda: "{}/{}".format(*chance_of(now)), "parts": lambda: str(all_parts(now)),
            "turnings": lambda: str(turning_count(now)), "twisted": lambda: str(twisted_count(now, int(words[1]))),
            "alike": lambda: "yes" if are_alike(now, then) else "no",
            "counts": lambda: "yes" if now[0] == then[0] and reference.web(now) == reference.web(then) else "no",
            "then": lambda: table_text(then), "log": lambda: "\n".join(log_lines(model.log()))}[words[0]]()


class Desks(Case):
    def says(self, desk, model, row):
        """The desk answers a row of its live table, or raises its error; the model goes with it."""
        before = desk.tally()[0]
        expected = answer(model, row)
        if expected is not None:
            self.same(desk.say(row), expected, row)
            if row == "undo":
                model.undo()
            elif isinstance(told(row), tuple):
                model.take(told(row))
        elif row == "undo":
            self.raises(NothingToUndo, {"steps": 0}, desk.say, row)
        elif row.split(" ")[0] in NAMED:
            self.raises(NotUsable, {"word": "name", "at": -1}, desk.say, row)
        else:
            event = told(row)
            self.raises(InvalidEvent, {"event": event, "reason": model.reason(event)}, desk.say, row)
        self.same(desk.tally(), (before + 1, before + 1))

    def refuses(self, desk, value):
        """The desk does not understand the value, which is told as it is; it counts the call alone."""
        before = desk.tally()[0]
        self.raises(InvalidRow, {"row": value}, desk.say, value)
        try:
            desk.say(value=value)
        except InvalidRow as error:
            self.assertIs(error.row, value)
        self.same(desk.tally(), (before + 2, before + 2))

    def test_rows_of_each_form(self):
        for model in SCRIPTS:
            desk = desk_behind(model)
            names = list(model.names()) + ["none", "x"]
            rows = list(PLAIN[1:]) + ["twisted 0", "twisted 1", "twisted 16", "twisted " + "9" * 90]
            rows += [f"{word} {name}" for word in NAMED for name in names]
            rows += ["bars " + event_line(event) for event in model.events[:9]]
            rows += ["bars prime 10007", "bars prime 19", "bars move 2 3 2", "bars note none", "bars drop 2 4", "prime 4",
                     "bars power 3 2", "bars power 3 0", "power 2 0", "move 0 0 0", "drop 2 4", "note abcdefgh"]
            for row in rows:
                self.says(desk, model_of(model), row)

    def test_rows_one_behind_another(self):
        for script in SCRIPTS:
            desk, model = Desk(), Model(script.begun)
            self.same(desk.say("table " + table_text(script.begun)), "ok")
            for k, event in enumerate(script.events):
                self.says(desk, model, "bars " + event_line(event))
                self.says(desk, model, event_line(event))
                for row in (PLAIN[1:] + ("alike a", "counts a", "then a", "twisted 2"))[k % 10:k % 10 + 2]:
                    self.says(desk, model, row)
            self.says(desk, model, "log")
            for _ in range(len(model.events) + 2):
                self.says(desk, model, "undo")
                self.says(desk, model, "table")
            self.says(desk, model, "log")

    def test_each_answer(self):
        desk = Desk()
        for row, expected in (
                ("table -", "ok"), ("table", "-"), ("web", "-"), ("chance", "1/1"), ("parts", "1"), ("turnings", "1"),
                ("twisted 0", "1"), ("log", "-"), ("prime 3", "ok"), ("prime 2", "ok"), ("note a", "ok"), ("move 2 3 2", "ok"),
                ("table", "2 3 / 2: 3^2"), ("web", "2:3"), ("chance", "1/2"), ("parts", "6"), ("turnings", "6"),
                ("twisted 1", "18"), ("twisted 0", "6"), ("alike a", "no"), ("counts a", "no"), ("then a", "2 3"),
                ("log", "-\nprime 3\nprime 2\nnote a\nmove 2 3 2"), ("bars move 2 3 2", "moved"), ("bars prime 7", "-"),
                ("bars note a", "name"), ("undo", "move 2 3 2"), ("alike a", "yes"), ("counts a", "yes"), ("undo", "note a"),
                ("bars note a", "-"), ("undo", "prime 2"), ("undo", "prime 3"), ("table", "-"),
                ("table 2 3 5 7 11 / 2: 5^4 7^6 / 3: 7^2", "ok"), ("web", "2:5 2:7 3:7"), ("power 3 2", "ok"),
                ("table", "2 3 5 7 11 / 2: 5^4 7^6 / 3: 7^4"), ("log", "2 3 5 7 11 / 2: 5^4 7^6 / 3: 7^2\npower 3 2")):
            got = desk.say(row)
            self.assertIs(type(got), str)
            self.same(got, expected, row)

    def test_before_the_first_live_table(self):
        desk = Desk()
        for value in PLAIN + ("alike a", "then a", "counts a", "twisted 2", "bars prime 2", "prime 2", "note a", "move 2 3 2",
                              "table ", "table x", "table 3 2", "table 2 3 / 2: 3^1", "prime", "say", ""):
            self.refuses(desk, value)
        for value in wrong.any_values():
            self.refuses(desk, value)
        count = desk.tally()[0]
        self.same([desk.say("table 2 3"), desk.say("table"), desk.tally()], ["ok", "2 3", (count + 2, count + 2)])

    def test_any_other_value(self):
        for model in SCRIPTS[:6]:
            desk = desk_behind(model)
            before = desk.say("log")
            for value in wrong.any_values():
                if table_told(value) is None and not (isinstance(value, str) and is_row(value)):
                    self.refuses(desk, value)
            for value in ("Table", "TABLE 2 3", "undo ", " undo", "undo\n", "table\n", "table  2 3", "table 2 3 ", "log log",
                          "web -", "chance 1", "parts 2", "turnings x", "twisted", "twisted ", "twisted 01", "twisted -1",
                          "twisted 1 1", "twisted x", "twisted 00", "twisted +1", "twisted " + "9" * 91, "alike", "alike ",
                          "alike A", "alike a b", "alike abcdefghi", "alike a\n", "counts", "counts 1", "then", "then a1",
                          "bars", "bars ", "bars undo", "bars table", "bars bars prime 2", "bars prime", "bars prime 02",
                          "bars prime 2 3", "bars  prime 2", "prime", "prime 02", "prime 2 3", "prime x", "note", "note A",
                          "note a b", "move 2 3", "move 2 3 2 2", "drop 2", "power 2", "power 2 1 1", "go prime 2", "say",
                          "table " + " ".join(str(prime) for prime in NINE), "table 2 3 / 2: 3^1", "table 2 3 /", "table x",
                          "table - 2", "prime 2\nprime 3", "prime " + "9" * 91, ("table 2 3",), ["undo"], ("undo",), None):
                self.same(is_row(value) or table_told(value) is not None, False, value)
                self.refuses(desk, value)
            self.same(desk.say("log"), before)

    def test_each_row_with_a_word_changed(self):
        model = SCRIPTS[4]
        rows = ("bars move 2 3 2", "twisted 16", "alike n", "then nm", "counts a", "web", "chance", "parts", "turnings", "log",
                "bars note a", "table")
        desk = desk_behind(model)
        for row in rows:
            for text in changed_lines(row):
                if table_told(text) is not None or isinstance(told(text), tuple) or text == "undo":
                    continue
                if is_row(text):
                    self.says(desk, model_of(model), text)
                else:
                    self.raises(InvalidRow, {"row": text}, desk.say, text)

    def test_each_table_with_a_word_changed(self):
        desk = Desk()
        desk.say("table 2 3")
        now = ((2, 3), ())
        for text in changed_lines("table 2 3 7 / 2: 3^2 7^6"):
            table = table_told(text)
            if table is not None:
                now = table
                self.same([desk.say(text), desk.say("table"), desk.say("log")], ["ok", table_text(table), table_text(table)])
            elif not is_row(text):
                self.raises(InvalidRow, {"row": text}, desk.say, text)
                self.same(desk.say("table"), table_text(now))

    def test_a_new_table_in_the_place_of_the_old_one(self):
        desk = Desk()
        for row in ("table 2 3", "note a", "prime 7", "table 2 3 / 2: 3^2"):
            self.same(desk.say(row), "ok")
        self.same([desk.say("table"), desk.say("log")], ["2 3 / 2: 3^2", "2 3 / 2: 3^2"])
        self.raises(NothingToUndo, {"steps": 0}, desk.say, "undo")
        self.raises(NotUsable, {"word": "name", "at": -1}, desk.say, "then a")
        self.same(desk.tally(), (8, 8))

    def test_full(self):
        desk = Desk()
        desk.say("table 2 3 / 2: 3^2")
        for _ in range(40):
            self.same(desk.say("power 2 1"), "ok")
        self.same(desk.say("bars prime 7"), "full")
        self.raises(InvalidEvent, {"event": ("prime", 7), "reason": "full"}, desk.say, "prime 7")
        self.raises(InvalidRow, {"row": "prime 07"}, desk.say, "prime 07")
        self.same([desk.say("undo"), desk.say("bars prime 7"), desk.tally()], ["power 2 1", "-", (46, 46)])

    def test_two_desks_know_nothing_of_one_another(self):
        one, other = Desk(), Desk()
        one.say("table 2 3")
        self.refuses(other, "table")
        other.say("table 2 3")
        one.say("note a")
        one.say("prime 7")
        self.same([other.say("table"), other.say("log"), one.say("table")], ["2 3", "2 3", "2 3 7"])
        self.raises(NotUsable, {"word": "name", "at": -1}, other.say, "then a")
        self.same([one.tally(), other.tally()], [(4, 4), (6, 6)])

    def test_a_new_desk(self):
        self.same(Desk().tally(), (0, 0))


def model_of(model):
    """A new model behind the same events."""
    other = Model(model.begun)
    for event in model.events:
        other.take(event)
    assert all(is_event(event) for event in other.events)
    return other


if __name__ == "__main__":
    unittest.main()
