"""What all tests share: comparing by kind, and expecting errors with just their fields."""

import unittest


def fields_of(error):
    """The fields of an error of the package."""
    return vars(error)


class Case(unittest.TestCase):
    """A TestCase in which True is not 1, a list is no tuple, and an error has just its fields."""

    maxDiff = 2000

    def same(self, got, expected, note=None):
        """Both values are equal, and of the same kinds throughout."""
        if got != expected or repr(got) != repr(expected):
            self.fail(f"got {short(got)}, expected {short(expected)}, {short(note)}")

    def raises(self, error, fields, call, *args, **named):
        """The call raises just this error, with just these fields, and leaves its arguments as they are."""
        before = repr((args, named))
        try:
            got = call(*args, **named)
        except ValueError as caught:
            self.assertIs(caught.__class__, error, (call, short(args)))
            self.same(fields_of(caught), fields, (call, args))
        else:
            self.fail(f"{call} of {short(args)} {short(named)} returned {short(got)}")
        self.assertEqual(before, repr((args, named)))


def short(value):
    """The repr of a value, cut where it is long."""
    text = repr(value)
    return text if len(text) <= 300 else text[:300] + ".."
