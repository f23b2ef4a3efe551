"""Promises [1.1] and [1.2]."""

import unittest

from hookstrips import errors
from tests.samples import NO_INTEGERS, NO_STRINGS, NO_TUPLES
from tests.test_interface import defined_in

MESSAGE_ERRORS = (
    "InvalidRow", "InvalidWord", "InvalidPoly", "InvalidBox", "InvalidBounds", "InvalidWalk", "InvalidKind",
    "InvalidPledge", "InvalidOperation",
)

KEEPING = {
    "ParseError": (errors.HookError, "spot"),
    "InvalidNumber": (IndexError, "given"),
    "UnknownName": (KeyError, "name"),
    "NothingToUndo": (RuntimeError, "wanted"),
    "TooMany": (OverflowError, "limit"),
    "Refused": (ArithmeticError, "reason"),
}


class Errors(unittest.TestCase):
    def test_base(self):
        self.assertEqual(errors.HookError.__bases__, (ValueError,))

    def test_message_errors_are_directly_derived(self):
        for name in MESSAGE_ERRORS:
            with self.subTest(name=name):
                self.assertEqual(getattr(errors, name).__bases__, (errors.HookError,))

    def test_message_errors_take_a_message(self):
        for name in MESSAGE_ERRORS + ("HookError",):
            with self.subTest(name=name):
                with self.assertRaises(getattr(errors, name)) as caught:
                    raise getattr(errors, name)("a message")
                self.assertEqual(caught.exception.args, ("a message",))

    def test_keeping_errors_are_directly_derived(self):
        for name, (base, _) in KEEPING.items():
            with self.subTest(name=name):
                self.assertEqual(getattr(errors, name).__bases__, (base,))

    def test_keeping_errors_keep_any_value(self):
        for name, (_, attribute) in KEEPING.items():
            for value in NO_INTEGERS + NO_STRINGS + NO_TUPLES:
                with self.subTest(name=name, value=value):
                    with self.assertRaises(getattr(errors, name)) as caught:
                        raise getattr(errors, name)(value)
                    self.assertIs(getattr(caught.exception, attribute), value)

    def test_all_are_classes_of_this_file(self):
        self.assertEqual(sorted(defined_in(errors)), sorted(MESSAGE_ERRORS + tuple(KEEPING) + ("HookError",)))


if __name__ == "__main__":
    unittest.main()
