"""The classes of errors [3]."""

import unittest

from ladderdays.errors import (DaysError, DoubleName, InvalidDate, InvalidLadder, InvalidName, InvalidNote,
                               InvalidNumber, InvalidRow, InvalidSet, InvalidYears, NoDays, NothingToUndo,
                               UnknownName, Unreadable)
from tests.plain import Case

KINDS = [InvalidRow, InvalidLadder, InvalidSet, InvalidNumber, InvalidYears, InvalidDate, InvalidName, DoubleName,
         UnknownName, NoDays, InvalidNote, NothingToUndo, Unreadable]
NAMES = ["InvalidRow", "InvalidLadder", "InvalidSet", "InvalidNumber", "InvalidYears", "InvalidDate", "InvalidName",
         "DoubleName", "UnknownName", "NoDays", "InvalidNote", "NothingToUndo", "Unreadable"]


def values():
    listed = [1, [2], "three"]
    return [0, 7, -3, 10 ** 31, 10 ** 6000, "", "text", "a b {c} \\ '", (), (1, 2), ([1], 2, (3, [4])), [], listed,
            [listed, listed], None, True, False, b"bytes", {"a": [1]}, object(), ValueError("inner"), DaysError]


class Errors(Case):
    def test_names(self):
        self.assertEqual([kind.__name__ for kind in KINDS], NAMES)
        self.assertEqual(DaysError.__name__, "DaysError")
        self.assertEqual({kind.__module__ for kind in KINDS + [DaysError]}, {"ladderdays.errors"})

    def test_value_is_the_same_object(self):
        for kind in KINDS + [DaysError]:
            for thing in values():
                self.assertIs(kind(thing).value, thing)
                self.assertIs(kind(value=thing).value, thing)

    def test_value_is_each_object_s_own(self):
        for kind in KINDS + [DaysError]:
            first, second = kind(1), kind(value=2)
            self.assertEqual((first.value, second.value), (1, 2))

    def test_value_is_kept_when_raised(self):
        for kind in KINDS + [DaysError]:
            for thing in values():
                for made in (kind(thing), kind(value=thing)):
                    with self.assertRaises(kind) as caught:
                        raise made
                    self.assertIs(caught.exception, made)
                    self.assertIs(caught.exception.value, thing)

    def test_nothing_in_a_value_changes(self):
        for kind in KINDS + [DaysError]:
            before = [repr(thing) for thing in values()[5:16]]
            things = values()[5:16]
            for thing in things:
                kind(thing)
            self.assertEqual([repr(thing) for thing in things], before)

    def test_days_error(self):
        self.assertTrue(issubclass(DaysError, ValueError))
        for kind in KINDS:
            self.assertFalse(issubclass(DaysError, kind), kind)
        self.assertEqual([base for base in DaysError.__mro__ if base.__module__.startswith("ladderdays")], [DaysError])

    def test_each_is_a_days_error_and_of_no_other_class(self):
        for kind in KINDS:
            made = kind(1)
            self.assertIsInstance(made, DaysError)
            self.assertIsInstance(made, ValueError)
            self.assertEqual([other for other in KINDS if isinstance(made, other)], [kind])
            mine = [base for base in kind.__mro__ if base.__module__.startswith("ladderdays")]
            self.assertEqual(mine, [kind, DaysError])

    def test_of_no_other_class_of_python_that_is_caught(self):
        for kind in KINDS + [DaysError]:
            for other in (TypeError, LookupError, ArithmeticError, RuntimeError, StopIteration, AttributeError):
                self.assertFalse(issubclass(kind, other), (kind, other))

    def test_one_argument(self):
        for kind in KINDS + [DaysError]:
            with self.assertRaises(TypeError):
                kind()
            with self.assertRaises(TypeError):
                kind(1, 2)


if __name__ == "__main__":
    unittest.main()
