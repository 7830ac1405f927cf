"""Events by form ([82] [83])."""

import unittest

from tests import eventsamples, wrong
from tests.support import Case
from whoacts.tableevents import is_event


class Events(Case):
    def test_events(self):
        for table in eventsamples.STARTS:
            for event in eventsamples.all_events(table):
                self.same(is_event(value=event), True)

    def test_each_form(self):
        for event in (("prime", 0), ("prime", 10**90 - 1), ("move", 0, 0, 0), ("drop", 5, 5), ("power", 10**89, 0),
                      ("note", "a"), ("note", "z"), ("note", "abcdefgh"), ("note", "prime")):
            self.same(is_event(event), True)
        for value in eventsamples.no_events():
            self.same(is_event(value), False, value)

    def test_any_value(self):
        for value in wrong.any_values():
            before = repr(value)
            self.same(is_event(value), False)
            for word in ("prime", "move", "drop", "power", "note", "event", value):
                for event in ((word, value), (word, value, value), (word, value, value, value), (word, 2, value),
                              (word, 2, 3, value), (word,), (value, word), [word, value], (word, value, 3, 2)):
                    self.same(is_event(event), eventsamples.is_event(event), event)
            self.assertEqual(repr(value), before)

    def test_each_change_of_an_event(self):
        for event in (("prime", 7), ("move", 2, 7, 6), ("drop", 2, 3), ("power", 3, 2), ("note", "m")):
            for value in wrong.changed(event):
                self.same(is_event(value), eventsamples.is_event(value), value)

    def test_names(self):
        for k in range(128):
            name = chr(k)
            self.same(is_event(("note", name)), "a" <= name <= "z")
            self.same(is_event(("note", "ab" + name)), "a" <= name <= "z")


if __name__ == "__main__":
    unittest.main()
