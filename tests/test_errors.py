"""The classes of errors: their bases, their fields, and that none is a subclass of another."""

import copy
import unittest

from apartcalls import errors
from apartcalls.errors import (
    InvalidBreaks, InvalidCalls, InvalidNumber, InvalidOrder, InvalidStanding, InvalidTies, NothingToUndo, UnknownCall,
)
from tests.things import no_numbers

FIELDS = {
    InvalidNumber: "number", InvalidTies: "index", InvalidStanding: "index", InvalidOrder: "index",
    InvalidBreaks: "index", InvalidCalls: "index", UnknownCall: "number",
}
BASES = {
    InvalidNumber: ValueError, InvalidTies: ValueError, InvalidStanding: ValueError, InvalidOrder: ValueError,
    InvalidBreaks: ValueError, InvalidCalls: ValueError, UnknownCall: LookupError, NothingToUndo: LookupError,
}


class TestErrors(unittest.TestCase):
    def test_bases(self):
        for error, base in BASES.items():
            with self.subTest(error=error):
                self.assertEqual(error.__bases__, (base,))
                self.assertEqual(error.__module__, "apartcalls.errors")

    def test_no_further_errors(self):
        found = {thing for thing in vars(errors).values() if isinstance(thing, type)}
        self.assertEqual(found, set(BASES))

    def test_none_is_a_subclass_of_another(self):
        for one in BASES:
            for other in BASES:
                self.assertEqual(issubclass(one, other), one is other)

    def test_fields_hold_the_thing_itself(self):
        for error, field in FIELDS.items():
            for thing in no_numbers() + [0, 7, 10 ** 3999]:
                with self.subTest(error=error):
                    made = error(thing)
                    self.assertEqual(list(vars(made)), [field])
                    self.assertIs(getattr(made, field), thing)

    def test_fields_by_name(self):
        for error, field in FIELDS.items():
            self.assertEqual(getattr(error(**{field: 5}), field), 5)

    def test_nothing_to_undo_has_no_fields(self):
        self.assertEqual(vars(NothingToUndo()), {})

    def test_each_is_caught_by_its_own_name_only(self):
        for error in FIELDS:
            for other in BASES:
                try:
                    raise error(4)
                except other:
                    self.assertIs(error, other)
                except (ValueError, LookupError):
                    self.assertIsNot(error, other)

    def test_copies_keep_their_fields(self):
        for error, field in FIELDS.items():
            self.assertEqual(vars(copy.copy(error(6))), {field: 6})

    def test_texts_of_errors_with_long_numbers(self):
        for error in FIELDS:
            self.assertIsInstance(str(error(10 ** 5000)), str)
