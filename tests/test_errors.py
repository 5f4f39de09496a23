"""0.3 and 0.4: the errors."""

import inspect
import unittest

from ramet import errors

NAMES = (
    "NotWritten", "BadMachine", "BadWord", "BadText", "NotNet", "TwoGivers", "TooMany", "NotThere",
    "BadTape", "NoRoom", "InTheWay", "BadRing", "NotOwn", "NotStill", "Crowded", "Loaded",
    "BadWall", "NotQuiet", "NoSuchKin", "NotPart", "NotNetCell", "Touched",
)


class ErrorTest(unittest.TestCase):
    def test_base(self):
        self.assertTrue(issubclass(errors.RametError, ValueError))

    def test_each_is_a_ramet_error_and_of_no_other(self):
        for name in NAMES:
            kind = getattr(errors, name)
            self.assertTrue(inspect.isclass(kind), name)
            self.assertTrue(issubclass(kind, errors.RametError), name)
            self.assertTrue(issubclass(kind, ValueError), name)
            for other in NAMES:
                if other != name:
                    self.assertFalse(issubclass(kind, getattr(errors, other)), (name, other))

    def test_there_is_no_further_chain_of_errors(self):
        found = [kind for _, kind in inspect.getmembers(errors, inspect.isclass)]
        for kind in found:
            for other in found:
                if kind is not other and issubclass(kind, other):
                    self.assertIs(other, errors.RametError)

    def test_created_with_one_argument(self):
        for name in NAMES:
            if name != "BadText":
                with self.assertRaises(errors.RametError):
                    raise getattr(errors, name)("why")

    def test_bad_text_has_the_line(self):
        for line in (1, 7):
            error = errors.BadText(line)
            self.assertEqual(error.line, line)
            self.assertIsInstance(error.line, int)
        with self.assertRaises(ValueError):
            raise errors.BadText(3)


if __name__ == "__main__":
    unittest.main()
