import unittest

from portage import errors


class Errors(unittest.TestCase):
    def test_bases(self):
        self.assertEqual(errors.PortError.__bases__, (ValueError,))
        for name in ("NotAllowed", "TooLarge", "Missing", "BadForm", "BadKind"):
            self.assertEqual(getattr(errors, name).__bases__, (errors.PortError,))

    def test_they_are_made_and_caught(self):
        for error in (errors.NotAllowed("why"), errors.TooLarge("why"), errors.Missing("why")):
            with self.assertRaises(errors.PortError):
                raise error

    def test_attributes(self):
        self.assertEqual(errors.BadForm(3).line, 3)
        self.assertEqual(errors.BadKind("maker M op f").place, "maker M op f")
        with self.assertRaises(errors.PortError) as caught:
            raise errors.BadForm(12)
        self.assertEqual(caught.exception.line, 12)


if __name__ == "__main__":
    unittest.main()
