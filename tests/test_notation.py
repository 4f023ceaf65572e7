"""Points 9, 10 and 11: the written form of charters."""

import unittest

from whoevermay.charters import Charter
from whoevermay.errors import InvalidCharter, InvalidNotation, UnknownName, WhoevermayError
from whoevermay.notation import format_charter, parse_charter

FULL = "\n".join([
    "rights read write key seal boss",
    "sole seal boss",
    "founder ann : read seal",
    "founder bob :",
    "founder cid : write key boss",
    "join j1 : read key",
    "join j2 :",
    "claim c1 key : read boss : write seal",
    "claim c2 key : :",
    "drop d1 seal : read : key boss",
    "drop d2 read : : key",
    "give g1 key : read key : write : seal boss",
    "give g2 read : : : key",
    "take t1 boss : boss : read : key",
    "take t2 key : read : :",
    "pass p1 seal : boss : read key : write",
    "pass p2 boss : : :",
])

FULL_PARTS = {
    "rights": ("read", "write", "key", "seal", "boss"),
    "sole": ("seal", "boss"),
    "founders": (("ann", ("read", "seal")), ("bob", ()), ("cid", ("write", "key", "boss"))),
    "rules": (
        ("join", "j1", ("read", "key")),
        ("join", "j2", ()),
        ("claim", "c1", ("read", "boss"), ("write", "seal"), "key"),
        ("claim", "c2", (), (), "key"),
        ("drop", "d1", ("read",), ("key", "boss"), "seal"),
        ("drop", "d2", (), ("key",), "read"),
        ("give", "g1", ("read", "key"), ("write",), ("seal", "boss"), "key"),
        ("give", "g2", (), (), ("key",), "read"),
        ("take", "t1", ("boss",), ("read",), ("key",), "boss"),
        ("take", "t2", ("read",), (), (), "key"),
        ("pass", "p1", ("boss",), ("read", "key"), ("write",), "seal"),
        ("pass", "p2", (), (), (), "boss"),
    ),
}


def parts_of(charter):
    return {"rights": charter.rights, "sole": charter.sole, "founders": charter.founders, "rules": charter.rules}


class WritingAndReading(unittest.TestCase):
    def assert_both_ways(self, text, **parts):
        charter = Charter(**parts)
        self.assertEqual(format_charter(charter), text)
        self.assertEqual(parts_of(parse_charter(text)), parts_of(charter))

    def test_a_charter_with_everything(self):
        self.assert_both_ways(FULL, **FULL_PARTS)
        self.assertEqual(parts_of(parse_charter(FULL)), FULL_PARTS)

    def test_rights_alone(self):
        self.assert_both_ways("rights key\nsole", rights=["key"])
        self.assert_both_ways("rights f e d c b a\nsole", rights=list("fedcba"))

    def test_sole_rights(self):
        self.assert_both_ways("rights b a\nsole b a", rights=["b", "a"], sole=["a", "b"])
        self.assert_both_ways("rights b a\nsole a", rights=["b", "a"], sole=["a"])

    def test_founders_without_rules(self):
        self.assert_both_ways("rights b a\nsole\nfounder ann : b a\nfounder bob :",
                              rights=["b", "a"], founders=[("ann", ["a", "b"]), ("bob", [])])

    def test_rules_without_founders(self):
        self.assert_both_ways("rights a b\nsole\njoin j :\ndrop d a : b :", rights=["a", "b"],
                              rules=[("join", "j", []), ("drop", "d", ["b"], [], "a")])

    def test_each_kind_with_empty_and_full_lists(self):
        for kind, lists in [("claim", 2), ("drop", 2), ("give", 3), ("take", 3)]:
            for full in range(2 ** lists):
                rows = [[f"r{at}"] if full >> at & 1 else [] for at in range(lists)]
                words = [kind, "x", "r9"]
                for row in rows:
                    words.extend([":", *row])
                self.assert_both_ways("rights r0 r1 r2 r9\nsole\n" + " ".join(words),
                                      rights=["r0", "r1", "r2", "r9"], rules=[(kind, "x", *rows, "r9")])

    def test_words_of_the_form_as_names(self):
        self.assert_both_ways(
            "rights rights sole founder join give\nsole sole\nfounder founder : rights\nfounder rights : sole\n"
            "join join : join\ngive sole give : rights : founder :\nclaim founder founder : :",
            rights=["rights", "sole", "founder", "join", "give"], sole=["sole"],
            founders=[("founder", ["rights"]), ("rights", ["sole"])],
            rules=[("join", "join", ["join"]), ("give", "sole", ["rights"], ["founder"], [], "give"),
                   ("claim", "founder", [], [], "founder")])

    def test_most_rights_founders_and_rules(self):
        rights = [f"right{number}" for number in range(6)]
        founders = [(f"person{number}", rights) for number in range(5)]
        rules = [("take", f"rule{number}", rights, rights[2:4], rights[4:], rights[1]) for number in range(12)]
        text = format_charter(Charter(rights=rights, founders=founders, rules=rules))
        self.assert_both_ways(text, rights=rights, founders=founders, rules=rules)
        self.assertEqual(len(text.split("\n")), 19)

    def test_rights_of_a_list_in_another_order(self):
        lines = ["rights a b c s t", "sole t s", "founder ann : c b a", "join j : c a b",
                 "claim k a : t s c : b", "claim l a : b : t s c", "drop d a : t b : s c",
                 "give g a : t b a : s c b : t", "give h a : : b : t s c", "take u s : t a s : c b : t a",
                 "pass p s : t b a : t c b : a"]
        charter = parse_charter("\n".join(lines))
        self.assertEqual(charter.sole, ("s", "t"))
        self.assertEqual(charter.founders, (("ann", ("a", "b", "c")),))
        self.assertEqual(charter.rules, (
            ("join", "j", ("a", "b", "c")), ("claim", "k", ("c", "s", "t"), ("b",), "a"),
            ("claim", "l", ("b",), ("c", "s", "t"), "a"), ("drop", "d", ("b", "t"), ("c", "s"), "a"),
            ("give", "g", ("a", "b", "t"), ("b", "c", "s"), ("t",), "a"), ("give", "h", (), ("b",), ("c", "s", "t"), "a"),
            ("take", "u", ("a", "s", "t"), ("b", "c"), ("a", "t"), "s"),
            ("pass", "p", ("a", "b", "t"), ("b", "c", "t"), ("a",), "s")))
        self.assertEqual(format_charter(charter).split("\n")[1:4], ["sole s t", "founder ann : a b c", "join j : a b c"])

    def test_examples_of_the_interface(self):
        charter = Charter(rights=["read", "key"], rules=[("give", "g", ["key"], [], ["key"], "read")])
        self.assertEqual(format_charter(charter), "rights read key\nsole\ngive g read : key : : key")
        with self.assertRaises(InvalidCharter):
            parse_charter("rights a b\nsole\njoin j : c")
        with self.assertRaises(InvalidNotation):
            parse_charter("rights a b\nsole\nclaim c a :")


class FaultsOfTheForm(unittest.TestCase):
    def refuse(self, line, text):
        with self.subTest(text):
            with self.assertRaises(InvalidNotation) as caught:
                parse_charter(text)
            self.assertEqual(caught.exception.line, line)
            self.assertIsInstance(caught.exception, WhoevermayError)

    def test_the_empty_string_and_empty_lines(self):
        self.refuse(1, "")
        self.refuse(1, "\n")
        self.refuse(1, "\nrights a\nsole")
        self.refuse(2, "rights a\n")
        self.refuse(2, "rights a\n\nsole")
        self.refuse(3, "rights a\nsole\n")
        self.refuse(3, "rights a\nsole\n\n")
        self.refuse(3, "rights a\nsole\n\nfounder ann :")
        self.refuse(4, "rights a\nsole\nfounder ann :\n")
        self.refuse(4, "rights a\nsole\nfounder ann :\n\njoin j :")
        self.refuse(4, "rights a\nsole\njoin j :\n")
        self.refuse(18, FULL + "\n")
        self.refuse(1, "\n" + FULL)

    def test_one_line(self):
        self.refuse(2, "rights a")
        self.refuse(2, "rights")
        self.refuse(2, "rights a a")
        self.refuse(2, "rights a b c d e f g h")
        self.refuse(1, "rights A")
        self.refuse(1, "rights :")
        self.refuse(1, "right a")
        self.refuse(1, "sole")
        self.refuse(1, "join j :")
        self.refuse(1, "rights ")

    def test_the_first_and_the_second_line(self):
        self.refuse(1, "sole\nrights a")
        self.refuse(1, "founder ann :\nrights a\nsole")
        self.refuse(1, "Rights a\nsole")
        self.refuse(1, "a b\nsole")
        self.refuse(1, "rights a : b\nsole")
        self.refuse(1, "rights a :\nsole")
        self.refuse(1, "rights : a\nsole")
        self.refuse(2, "rights a\nrights a\nsole")
        self.refuse(2, "rights a\nfounder ann : a")
        self.refuse(2, "rights a\njoin j : a")
        self.refuse(2, "rights a\nsole :")
        self.refuse(2, "rights a\nsole : a")
        self.refuse(2, "rights a\nsole a :")
        self.refuse(2, "rights a\nSole")
        self.refuse(2, "rights a\nsoles")
        self.refuse(2, "rights a\na")

    def test_further_lines(self):
        for line in ["rights a", "rights", "sole", "sole a", "grab g a : :", "Join j :", "joins j :", ":", "a", "j : a",
                     "founders ann :", "Founder ann :"]:
            self.refuse(3, "rights a\nsole\n" + line)
            self.refuse(4, "rights a\nsole\nfounder ann : a\n" + line)
            self.refuse(4, "rights a\nsole\njoin j : a\n" + line)
            self.refuse(18, FULL + "\n" + line)

    def test_founders_behind_rules(self):
        self.refuse(4, "rights a\nsole\njoin j :\nfounder ann :")
        self.refuse(5, "rights a\nsole\nfounder ann :\nclaim c a : :\nfounder bob :\njoin j :")
        for rule in ["join j :", "claim c a : :", "drop d a : :", "give g a : : :", "take t a : : :", "pass p a : : :"]:
            self.refuse(4, f"rights a\nsole\n{rule}\nfounder ann :")
            self.refuse(5, f"rights a\nsole\njoin i :\n{rule}\nfounder ann :")

    def test_colons(self):
        lists = {"founder x": 1, "join x": 1, "claim x a": 2, "drop x a": 2, "give x a": 3, "take x a": 3, "pass x a": 3}
        for head, many in lists.items():
            for colons in range(6):
                for word in ("", " a"):
                    text = "rights a\nsole\n" + head + (" :" + word) * colons
                    if colons != many:
                        self.refuse(3, text)
        self.refuse(3, "rights a\nsole\nfounder x : a a :")
        self.refuse(3, "rights a\nsole\njoin x : : a")

    def test_names_ahead_of_the_colon(self):
        for kind, colons in [("founder", ":"), ("join", ":"), ("claim", ": :"), ("drop", ": :"), ("give", ": : :"),
                             ("take", ": : :"), ("pass", ": : :")]:
            right = 1 if kind in ("founder", "join") else 2
            for many in range(5):
                if many != right:
                    self.refuse(3, "rights a\nsole\n" + " ".join([kind, *"abcd"[:many], colons]))

    def test_words_that_are_no_names(self):
        lines = FULL.split("\n")
        for at, line in enumerate(lines):
            words = line.split(" ")
            for place in range(1, len(words)):
                if words[place] != ":":
                    for word in ["A", "1a", "a_b", "abcdefghijklm", "a:", ":a", "a\tb", "\ta", "a\r", "-", "\u00e4"]:
                        changed = " ".join([*words[:place], word, *words[place + 1:]])
                        self.refuse(at + 1, "\n".join([*lines[:at], changed, *lines[at + 1:]]))

    def test_blanks_in_each_line(self):
        lines = FULL.split("\n")
        for at, line in enumerate(lines):
            faulty = [" " + line, line + " ", "\t" + line, line + "\t", line + "\r", line.replace(" ", "\t", 1) + "\t"]
            faulty.extend(line[:place] + " " + line[place:] for place, sign in enumerate(line) if sign == " ")
            for changed in faulty:
                self.refuse(at + 1, "\n".join([*lines[:at], changed, *lines[at + 1:]]))

    def test_other_separators_of_lines(self):
        for sign in ["\r", "\r\n", "\x0b", "\x0c", "\x85", "\u2028"]:
            self.refuse(1, f"rights a{sign}sole")

    def test_the_first_of_several_faults_is_told(self):
        self.refuse(1, "rights A\nsole B\njoin J :")
        self.refuse(2, "rights a\nsole B\njoin J :")
        self.refuse(3, "rights a\nsole\nclaim c a :\nclaim d a :")
        self.refuse(3, "rights a\nsole\njoin J :\nfounder ann :")
        self.refuse(4, "rights a\nsole\njoin j :\nfounder ann :\njoin J :")
        self.refuse(4, "rights a\nsole\njoin j :\nfounder ANN\nrights a")

    def test_faults_of_the_form_come_before_those_of_the_charter(self):
        self.refuse(4, "rights a a\nsole x\njoin j : a a\njoin J :")
        self.refuse(3, "rights\nsole\nfounder ann a")
        self.refuse(16, "rights a\nsole\n" + "join j :\n" * 13 + "join j")


class FaultsOfTheCharter(unittest.TestCase):
    def test_texts_that_have_the_form_but_write_no_charter(self):
        for text in ["rights\nsole", "rights a b c d e f g\nsole", "rights a a\nsole", "rights a\nsole a a", "rights a\nsole b",
                     "rights a\nsole\nfounder ann : b", "rights a\nsole\nfounder ann : a a",
                     "rights a\nsole\nfounder ann :\nfounder ann :", "rights a\nsole a\nfounder ann : a\nfounder bob : a",
                     "rights a\nsole\njoin j : b", "rights a\nsole a\njoin j : a", "rights a\nsole\njoin j :\nclaim j a : :",
                     "rights a\nsole\nclaim c b : :", "rights a\nsole a\nclaim c a : :", "rights a\nsole\nclaim c a : a :",
                     "rights a b\nsole\ndrop d a : b : b", "rights a\nsole\ndrop d a : : a", "rights a\nsole a\ngive g a : : :",
                     "rights a\nsole\ngive g a : : a :", "rights a b\nsole\ntake t a : : b : b", "rights a\nsole\npass p a : : :",
                     "rights a\nsole a\npass p a : a : :",
                     "rights a\nsole" + "".join(f"\nfounder n{number} :" for number in range(6)),
                     "rights a\nsole" + "".join(f"\njoin j{number} :" for number in range(13))]:
            with self.subTest(text):
                with self.assertRaises(InvalidCharter) as caught:
                    parse_charter(text)
                self.assertNotIsInstance(caught.exception, (UnknownName, InvalidNotation))


if __name__ == "__main__":
    unittest.main()
