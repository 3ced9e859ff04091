"""The interface: untold/errors.py."""

import unittest

from untold import errors
from untold.errors import BadEntry, BadProgram, BadSetting, BadState, TooGreat, UntoldError

KINDS = (BadSetting, BadProgram, BadEntry, BadState, TooGreat)


class Errors(unittest.TestCase):
    def test_family(self):
        self.assertTrue(issubclass(UntoldError, ValueError))
        for kind in KINDS:
            self.assertTrue(issubclass(kind, UntoldError), kind)
            for other in KINDS:
                self.assertEqual(issubclass(kind, other), kind is other, (kind, other))

    def test_all_are_defined_there(self):
        for kind in (UntoldError, *KINDS):
            self.assertEqual(kind.__module__, "untold.errors")
            self.assertIs(getattr(errors, kind.__name__), kind)

    def test_attributes(self):
        error = BadProgram(3, "no such wire")
        self.assertEqual((error.line, error.reason), (3, "no such wire"))
        self.assertEqual(BadEntry(4).place, 4)

    def test_messages(self):
        self.assertIn("no such wire", str(BadProgram(3, "no such wire")))
        self.assertIn("4", str(BadEntry(4)))
        self.assertEqual(str(BadState("told")), "told")
