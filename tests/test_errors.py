"""The error classes of the interface."""

import unittest

from whoevermay import errors

PLAIN = ["InvalidCharter", "InvalidGoal", "InvalidEntry", "InvalidQuestion", "NothingToUndo", "NothingToRedo"]
TELLING = [("UnknownName", "name", "ann"), ("InvalidAction", "number", 3), ("InvalidNotation", "line", 2),
           ("InvalidCertificate", "line", 4), ("TooMany", "limit", 2000), ("NameInUse", "name", "club")]


class Errors(unittest.TestCase):
    def test_base(self):
        self.assertEqual(errors.WhoevermayError.__bases__, (ValueError,))

    def test_plain_errors(self):
        for name in PLAIN:
            with self.subTest(name):
                kind = getattr(errors, name)
                self.assertEqual(kind.__bases__, (errors.WhoevermayError,))
                with self.assertRaises(kind):
                    raise kind("why")
                with self.assertRaises(kind):
                    raise kind()

    def test_errors_with_an_attribute(self):
        for name, field, value in TELLING:
            with self.subTest(name):
                kind = getattr(errors, name)
                self.assertEqual(kind.__bases__, (errors.WhoevermayError,))
                caught = kind(value)
                self.assertEqual(getattr(caught, field), value)
                self.assertEqual(list(vars(caught)), [field])

    def test_nothing_else_is_an_error(self):
        found = [name for name, kind in vars(errors).items() if isinstance(kind, type)]
        self.assertEqual(sorted(found), sorted(["WhoevermayError", *PLAIN, *[row[0] for row in TELLING]]))


if __name__ == "__main__":
    unittest.main()
