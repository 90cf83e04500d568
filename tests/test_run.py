"""What the runner reads in the output of unittest."""

import sys
import unittest

from run import counts, version_of

CLOSING = "\n" + "-" * 70 + "\nRan {} in 0.001s\n\n{}\n"


class RunTest(unittest.TestCase):
    def test_counts(self):
        for ran, closing, code, told in [
            ("3 tests", "OK", 0, (3, 0, 0)),
            ("1 test", "OK", 0, (1, 0, 0)),
            ("5 tests", "FAILED (failures=1, errors=2)", 1, (2, 3, 0)),
            ("5 tests", "OK (skipped=2)", 0, (3, 0, 2)),
            ("5 tests", "FAILED (failures=1, skipped=1)", 1, (3, 1, 1)),
            ("2 tests", "FAILED (unexpected successes=1)", 1, (1, 1, 0)),
            ("2 tests", "FAILED (failures=7)", 1, (0, 7, 0)),
            ("0 tests", "OK", 0, (0, 0, 0)),
            ("0 tests", "NO TESTS RAN", 5, (0, 0, 0)),
            ("2 tests", "OK", 3, (2, 1, 0)),
        ]:
            with self.subTest(ran=ran, closing=closing):
                self.assertEqual(counts("Ran 9 tests in a test" + CLOSING.format(ran, closing), code), told)

    def test_a_file_that_ends_early_has_failed(self):
        self.assertEqual(counts("", 0), (0, 1, 0))
        self.assertEqual(counts("Killed\n", -9), (0, 1, 0))

    def test_versions(self):
        self.assertEqual(version_of(sys.executable), f"{sys.version_info[0]}.{sys.version_info[1]}")
        self.assertIsNone(version_of("/nowhere/python3"))
        self.assertIsNone(version_of("false"))


if __name__ == "__main__":
    unittest.main()
