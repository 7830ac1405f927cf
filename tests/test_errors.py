"""The errors: families, fields, and that fields are kept as they are ([11])."""

import inspect
import unittest

from tests.support import Case
from whoacts import errors

FAMILIES = {
    "PaperError": {"InvalidPaper": ("word", "at")},
    "TableError": {"NotUsable": ("word", "at")},
    "LiveError": {"InvalidEvent": ("event", "reason"), "NothingToUndo": ("steps",)},
    "TextError": {"InvalidText": ("line", "field"), "InvalidRow": ("row",)},
}


class Errors(Case):
    def test_families(self):
        self.assertEqual(errors.ActError.__bases__, (ValueError,))
        for family, members in FAMILIES.items():
            self.assertEqual(getattr(errors, family).__bases__, (errors.ActError,))
            for name in members:
                self.assertEqual(getattr(errors, name).__bases__, (getattr(errors, family),))

    def test_there_are_no_others(self):
        names = {name for name, value in vars(errors).items() if inspect.isclass(value)}
        expected = {"ActError", *FAMILIES, *[name for members in FAMILIES.values() for name in members]}
        self.assertEqual(names, expected)

    def test_each_has_exactly_its_fields_by_position_and_by_name(self):
        for members in FAMILIES.values():
            for name, fields in members.items():
                made = getattr(errors, name)
                values = [object() for _ in fields]
                for error in (made(*values), made(**dict(zip(fields, values)))):
                    self.assertEqual(list(vars(error)), list(fields))
                    for field, value in zip(fields, values):
                        self.assertIs(getattr(error, field), value)
                with self.assertRaises(TypeError):
                    made(*values[1:])
                with self.assertRaises(TypeError):
                    made(*values, 1)

    def test_fields_are_the_very_objects(self):
        for value in ([1, [2]], (1, [2]), True, None, "a", 10**89, [[]] * 3):
            for error in (errors.InvalidPaper(value, value), errors.NotUsable(value, value)):
                self.assertIs(error.word, value)
                self.assertIs(error.at, value)
            self.assertIs(errors.InvalidEvent(value, "shape").event, value)
            self.assertIs(errors.InvalidRow(value).row, value)

    def test_they_are_caught_by_family(self):
        for made in (errors.InvalidPaper("a", 1), errors.NotUsable("a", 1), errors.InvalidEvent(1, "a"),
                     errors.NothingToUndo(0), errors.InvalidText(0, 1), errors.InvalidRow(1)):
            for family in (made.__class__.__bases__[0], errors.ActError, ValueError):
                with self.assertRaises(family):
                    raise made


if __name__ == "__main__":
    unittest.main()
