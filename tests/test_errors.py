"""The errors of point 3's interface: what they derive from, and their fields."""

import unittest

from rescans import errors
from rescans.errors import (
    InvalidCommand, Mismatch, NoCall, NoExpander, NoMark, NoName, NoOutcome, NoText, ScanError, SyntaxProblem, TooMany,
)

WITH_MESSAGE = [NoExpander, NoText, NoCall, NoName, NoMark, Mismatch, InvalidCommand]
WITH_FIELDS = [TooMany, SyntaxProblem, NoOutcome]


class ErrorsTest(unittest.TestCase):
    def test_each_error_is_directly_under_scan_error(self):
        for error in WITH_MESSAGE + WITH_FIELDS:
            with self.subTest(error=error):
                self.assertEqual(error.__bases__, (ScanError,))
        self.assertEqual(ScanError.__bases__, (ValueError,))

    def test_each_error_has_its_name_and_is_defined_in_the_file(self):
        names = ("ScanError TooMany SyntaxProblem NoOutcome NoExpander NoText NoCall NoName NoMark Mismatch "
                 "InvalidCommand").split()
        for name in names:
            with self.subTest(name=name):
                self.assertEqual(getattr(errors, name).__name__, name)
                self.assertEqual(getattr(errors, name).__module__, "rescans.errors")

    def test_no_error_catches_another_one(self):
        for error in WITH_MESSAGE + WITH_FIELDS:
            for other in WITH_MESSAGE + WITH_FIELDS:
                if error is not other:
                    self.assertFalse(issubclass(error, other), (error, other))

    def test_errors_with_a_message(self):
        for error in WITH_MESSAGE + [ScanError]:
            with self.subTest(error=error):
                with self.assertRaises(ScanError) as caught:
                    raise error("the message")
                self.assertEqual(str(caught.exception), "the message")
                self.assertIsInstance(caught.exception, ValueError)

    def test_too_many_keeps_its_limit(self):
        for limit in (60, 400, 2000, 10000, 0, -1, 10 ** 12):
            with self.assertRaises(ScanError) as caught:
                raise TooMany(limit)
            self.assertEqual(caught.exception.limit, limit)

    def test_syntax_problem_keeps_its_place(self):
        with self.assertRaises(ScanError) as caught:
            raise SyntaxProblem(1, 17)
        self.assertEqual((caught.exception.line, caught.exception.column), (1, 17))

    def test_no_outcome_keeps_its_kind_and_thread(self):
        for kind, thread in [("breaks", [(0, "a")]), ("endless", [(0, "a"), (1, "b"), (0, "a")]), ("last", []),
                             ("ends", [])]:
            with self.assertRaises(ScanError) as caught:
                raise NoOutcome(kind, thread)
            self.assertEqual(caught.exception.kind, kind)
            self.assertEqual(caught.exception.thread, thread)
            self.assertIsInstance(caught.exception.thread, list)

    def test_a_thread_can_be_changed_after_it_was_passed(self):
        thread = [(0, "a")]
        error = NoOutcome("breaks", thread)
        thread.append((1, "b"))
        self.assertEqual(error.thread, [(0, "a")])
        error.thread.clear()
        self.assertEqual(thread, [(0, "a"), (1, "b")])

    def test_fields_are_what_was_passed(self):
        self.assertIsNone(TooMany(None).limit)
        self.assertEqual((SyntaxProblem(None, "x").line, SyntaxProblem(None, "x").column), (None, "x"))
        self.assertEqual((NoOutcome(None, None).kind, NoOutcome(None, None).thread), (None, None))
        self.assertEqual(NoOutcome("last", ((0, "a"),)).thread, ((0, "a"),))

    def test_errors_with_fields_take_just_these(self):
        for error, arguments in [(TooMany, ()), (TooMany, (1, 2)), (SyntaxProblem, (1,)), (SyntaxProblem, (1, 2, 3)),
                                 (NoOutcome, ("last",)), (NoOutcome, ("last", [], 1))]:
            with self.subTest(error=error, arguments=arguments), self.assertRaises(TypeError):
                error(*arguments)


if __name__ == "__main__":
    unittest.main()
