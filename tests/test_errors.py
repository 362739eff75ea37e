import unittest

from leastmarks import errors
from leastmarks.errors import MarkError

FIELDS = {
    "NoProgram": ("where", "at", "why"), "NoText": ("at",), "NoFunction": ("name",), "NoPoint": ("at",),
    "NoPlan": (), "HasFaults": ("faults",), "NoChoices": ("at",), "NoStops": (), "NoLowered": ("name", "why"),
    "NoWrites": ("at",), "NoSpare": ("spare",), "NoImage": (), "NoModule": ("name",),
}


class ErrorsTest(unittest.TestCase):
    def test_thirteen(self):
        self.assertEqual(len(FIELDS), 13)
        self.assertEqual({c.__name__ for c in MarkError.__subclasses__() if c.__module__ == "leastmarks.errors"},
                         set(FIELDS))

    def test_bases(self):
        self.assertEqual(MarkError.__bases__, (ValueError,))
        for name in FIELDS:
            self.assertEqual(getattr(errors, name).__bases__, (MarkError,), name)

    def test_is_none_of_the_others(self):
        for name, fields in FIELDS.items():
            error = getattr(errors, name)(*range(len(fields)))
            self.assertIsInstance(error, MarkError)
            self.assertIsInstance(error, ValueError)
            for other in FIELDS:
                self.assertEqual(isinstance(error, getattr(errors, other)), other == name)

    def test_keeps_what_it_is_made_from(self):
        values = [[], [1], {}, None, "x", (1, [2]), object(), {3}, True, -1]
        for name, fields in FIELDS.items():
            for value in values:
                passed = [value] + [object() for _ in fields[1:]]
                error = getattr(errors, name)(*passed[:len(fields)])
                for field, told in zip(fields, passed):
                    self.assertIs(getattr(error, field), told)

    def test_arguments(self):
        self.assertEqual(MarkError().args, ())
        with self.assertRaises(TypeError):
            MarkError("x")
        for name, fields in FIELDS.items():
            make = getattr(errors, name)
            with self.assertRaises(TypeError):
                make(*range(len(fields) + 1))
            if fields:
                with self.assertRaises(TypeError):
                    make(*range(len(fields) - 1))

    def test_raised_and_caught(self):
        for name, fields in FIELDS.items():
            with self.assertRaises(MarkError) as caught:
                raise getattr(errors, name)(*range(len(fields)))
            self.assertEqual([getattr(caught.exception, f) for f in fields], list(range(len(fields))))
