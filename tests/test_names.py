"""Point 2: names."""

import unittest

from whoevermay.charters import is_name


class Names(unittest.TestCase):
    def test_names(self):
        for text in ["a", "z", "ann", "a1", "z9", "a0b0", "abcdefghijkl", "a23456789012", "mnopqrstuvwx",
                     "and", "join", "rights", "none"]:
            with self.subTest(text):
                self.assertIs(is_name(text), True)

    def test_every_sign(self):
        signs = "abcdefghijklmnopqrstuvwxyz0123456789"
        for code in range(0x3000):
            self.assertIs(is_name("a" + chr(code)), chr(code) in signs, code)
            self.assertIs(is_name("a" + chr(code) + "a"), chr(code) in signs, code)
            self.assertIs(is_name(chr(code)), chr(code) in signs[:26], code)
            self.assertIs(is_name(chr(code) + "a"), chr(code) in signs[:26], code)

    def test_lengths(self):
        for length in range(15):
            with self.subTest(length):
                self.assertIs(is_name("x" * length), 1 <= length <= 12)

    def test_no_names(self):
        for text in ["", "1", "9a", "0", "A", "aB", "Ann", "annA", " ", " a", "a ", "a b", "\n", "a\n", "\na", "a\nb",
                     "\t", "a\t", "\ta", "a\tb", "a\r", "a\r\n", "a_b", "_a", "a-b", "a.b", "a:", ":", "a,b",
                     "\u00e4", "a\u00e4", "a\u00df", "a\u0661", "a\u00b2", "\uff41", "a\uff11", "a\u0131",
                     "abcdefghijklm", "a234567890123", "abcdefghijkl\n"]:
            with self.subTest(text):
                self.assertIs(is_name(text), False)


if __name__ == "__main__":
    unittest.main()
