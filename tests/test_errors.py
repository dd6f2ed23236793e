"""[c4]: the error classes, what they derive from, and their fields."""

import unittest

from everyturn import errors
from everyturn.errors import NoSuchPlace, NotEnabled, NothingToUndo, ProgramFault, TooMany, TurnError


class ErrorsTest(unittest.TestCase):
    def test_base_class(self):
        self.assertEqual(TurnError.__bases__, (ValueError,))

    def test_each_error_is_directly_below_the_base_class(self):
        for error in (ProgramFault, NotEnabled, TooMany, NoSuchPlace, NothingToUndo):
            self.assertEqual(error.__bases__, (TurnError,), error)

    def test_the_names_are_defined_in_this_file(self):
        for error in (TurnError, ProgramFault, NotEnabled, TooMany, NoSuchPlace, NothingToUndo):
            self.assertEqual(error.__module__, "everyturn.errors")
            self.assertIs(getattr(errors, error.__name__), error)

    def test_program_fault_has_line_then_word(self):
        fault = ProgramFault(7, "form")
        self.assertEqual((fault.line, fault.word), (7, "form"))

    def test_not_enabled_has_at(self):
        self.assertEqual(NotEnabled(3).at, 3)

    def test_too_many_has_limit(self):
        self.assertEqual(TooMany(100).limit, 100)

    def test_no_such_place_has_word(self):
        self.assertEqual(NoSuchPlace("name").word, "name")

    def test_nothing_to_undo_has_no_arguments(self):
        self.assertEqual(vars(NothingToUndo()), {})

    def test_fields_are_those_of_the_document_and_no_others(self):
        self.assertEqual(sorted(vars(ProgramFault(0, "many"))), ["line", "word"])
        self.assertEqual(sorted(vars(NotEnabled(0))), ["at"])
        self.assertEqual(sorted(vars(TooMany(1))), ["limit"])
        self.assertEqual(sorted(vars(NoSuchPlace("pc"))), ["word"])

    def test_fields_are_needed(self):
        for error, many in ((ProgramFault, 2), (NotEnabled, 1), (TooMany, 1), (NoSuchPlace, 1)):
            with self.assertRaises(TypeError):
                error(*[0] * (many - 1))
            with self.assertRaises(TypeError):
                error(*[0] * (many + 1))

    def test_each_is_caught_as_the_base_class(self):
        for error in (ProgramFault(0, "form"), NotEnabled(0), TooMany(1), NoSuchPlace("name"), NothingToUndo()):
            with self.assertRaises(TurnError):
                raise error
            with self.assertRaises(ValueError):
                raise error


if __name__ == "__main__":
    unittest.main()
