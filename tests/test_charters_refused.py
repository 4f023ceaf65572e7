"""Points 2 to 7: what InvalidCharter is raised for, and that nothing else is refused."""

import itertools
import unittest

from whoevermay.charters import Charter
from whoevermay.errors import InvalidCharter, UnknownName, WhoevermayError

NO_NAMES = ["", "A", "1a", "a b", "a\n", "\na", "a\t", "a_b", "abcdefghijklm", ":", "\u00e4"]

# Of each kind a rule that can stand: "a", "b" and "c" are shared, "s" and "t" are sole.
GOOD = [
    ("join", "r", ["a"]),
    ("claim", "r", ["a"], ["b"], "c"),
    ("drop", "r", ["a"], ["b"], "c"),
    ("give", "r", ["a"], ["a"], ["b"], "c"),
    ("take", "r", ["a"], ["a"], ["b"], "c"),
    ("pass", "r", ["a"], ["a"], ["b"], "s"),
]


class Refusing(unittest.TestCase):
    def accept(self, **given):
        return Charter(**given)

    def refuse(self, **given):
        with self.subTest(given):
            with self.assertRaises(InvalidCharter) as caught:
                Charter(**given)
            self.assertIsInstance(caught.exception, WhoevermayError)
            self.assertIsInstance(caught.exception, ValueError)
            self.assertNotIsInstance(caught.exception, UnknownName)


class RightsAndFounders(Refusing):
    def test_numbers_of_rights(self):
        self.refuse(rights=[])
        self.refuse(rights=())
        self.refuse(rights=["a", "b", "c", "d", "e", "f", "g"])

    def test_names_of_rights(self):
        for name in NO_NAMES:
            self.refuse(rights=[name])
            self.refuse(rights=["a", name])
        self.refuse(rights=["a", "a"])
        self.refuse(rights=["a", "b", "c", "a"])

    def test_sole_rights(self):
        self.refuse(rights=["a", "b"], sole=["x"])
        self.refuse(rights=["a", "b"], sole=["a", "x"])
        self.refuse(rights=["a", "b"], sole=["a", "a"])
        self.refuse(rights=["a", "b"], sole=("a", "b", "a"))
        self.refuse(rights=["a", "b"], sole=[""])
        self.refuse(rights=["a", "b"], sole=["A"])
        self.refuse(rights=["a"], founders=[("ann", [])], rules=[("join", "j", [])], sole=["ann"])
        self.refuse(rights=["a"], founders=[("ann", [])], rules=[("join", "j", [])], sole=["j"])

    def test_names_of_founders(self):
        for name in NO_NAMES:
            self.refuse(rights=["a"], founders=[(name, [])])
            self.refuse(rights=["a"], founders=[("ann", []), (name, ["a"])])
        self.refuse(rights=["a"], founders=[("ann", []), ("ann", [])])
        self.refuse(rights=["a"], founders=[("ann", []), ("bob", []), ("ann", ["a"])])

    def test_numbers_of_founders(self):
        self.refuse(rights=["a"], founders=[(f"n{number}", []) for number in range(6)])

    def test_rights_of_founders(self):
        for held in (["x"], ["a", "x"], ["a", "a"], ("b", "a", "b"), [""], ["A"], ["ann"], ["a\n"]):
            self.refuse(rights=["a", "b"], founders=[("ann", held)])
            self.refuse(rights=["a", "b"], founders=[("bob", ["a"]), ("ann", held)])

    def test_a_founder_is_a_pair(self):
        self.refuse(rights=["a"], founders=[("ann",)])
        self.refuse(rights=["a"], founders=[("ann", [], [])])

    def test_sole_rights_that_two_founders_hold(self):
        self.refuse(rights=["a", "s"], sole=["s"], founders=[("ann", ["s"]), ("bob", ["s"])])
        self.refuse(rights=["a", "s"], sole=["s"], founders=[("ann", ["a", "s"]), ("bob", ["a"]), ("cid", ["s"])])
        self.refuse(rights=["r", "s"], sole=["r", "s"], founders=[("ann", ["r"]), ("bob", ["s"]), ("cid", ["s"])])
        self.refuse(rights=["r", "s"], sole=["r", "s"], founders=[("ann", ["r"]), ("bob", ["r"]), ("cid", ["s"])])
        self.accept(rights=["r", "s"], sole=["r", "s"], founders=[("ann", ["r"]), ("bob", ["s"])])


class Rules(Refusing):
    def given(self, *rules):
        return {"rights": ["a", "b", "c", "s", "t"], "sole": ["s", "t"], "rules": rules}

    def refuse_rule(self, *rule):
        self.refuse(**self.given(rule))

    def accept_rule(self, *rule):
        self.assertEqual(len(self.accept(**self.given(rule)).rules), 1)

    def test_the_rules_of_this_file_can_stand(self):
        for rule in GOOD:
            self.accept_rule(*rule)

    def test_numbers_of_rules(self):
        self.refuse(**self.given(*[("join", f"j{number}", []) for number in range(13)]))

    def test_names_of_rules(self):
        for kind, _, *rest in GOOD:
            for name in NO_NAMES:
                self.refuse_rule(kind, name, *rest)
            self.refuse(**self.given((kind, "r", *rest), ("join", "r", [])))
            self.refuse(**self.given(("claim", "r", [], [], "a"), ("join", "j", []), (kind, "r", *rest)))

    def test_other_kinds(self):
        for rule in GOOD:
            for word in ["", "grab", "Join", "joins", "rights", "sole", "founder", " give", "give "]:
                self.refuse_rule(word, *rule[1:])

    def test_one_part_too_many_or_too_few(self):
        for rule in GOOD:
            for many in range(len(rule)):
                self.refuse_rule(*rule[:many])
            self.refuse_rule(*rule[:2], [], *rule[2:])
            self.refuse_rule(*rule, [])
            self.refuse_rule(*rule, "a")
            self.refuse_rule(*rule[:2], *rule[3:])
        self.refuse_rule("join", "r", [], "a")
        self.refuse_rule("claim", "r", [], "a")
        self.refuse_rule("claim", "r", [], [], [], "a")
        self.refuse_rule("drop", "r", [], [], [], "a")
        self.refuse_rule("give", "r", [], [], "a")
        self.refuse_rule("take", "r", [], [], "a")
        self.refuse_rule("pass", "r", [], [], "s")

    def test_strange_rights_and_rights_twice_in_each_list(self):
        for rule in GOOD:
            for at in range(2, len(rule)):
                if isinstance(rule[at], list):
                    for words in (["x"], [*rule[at], "x"], rule[at] * 2, [""], ["A"], ["r"], [*rule[at], "a\n"]):
                        self.refuse_rule(*rule[:at], words, *rule[at + 1:])

    def test_strange_rights_of_rules(self):
        for rule in GOOD[1:]:
            for word in ["x", "", "A", "r", "a\n"]:
                self.refuse_rule(*rule[:-1], word)

    def test_sole_rights_in_joins(self):
        self.refuse_rule("join", "r", ["s"])
        self.refuse_rule("join", "r", ["a", "b", "t"])
        self.accept_rule("join", "r", ["a", "b", "c"])

    def test_sole_and_shared_rights_of_rules(self):
        for right in "abcst":
            sole = right in "st"
            lists = {"claim": ([], []), "drop": ([], []), "give": ([], [], []), "take": ([], [], []), "pass": ([], [], [])}
            allowed = {"claim": not sole, "drop": True, "give": not sole, "take": True, "pass": sole}
            for kind, empty in lists.items():
                check = self.accept_rule if allowed[kind] else self.refuse_rule
                check(kind, "r", *empty, right)

    def test_sole_rights_in_lists(self):
        self.accept_rule("claim", "r", ["s"], ["t"], "a")
        self.accept_rule("drop", "r", ["t"], ["a"], "s")
        self.accept_rule("give", "r", ["s", "t"], ["s"], ["t"], "a")
        self.accept_rule("take", "r", ["s", "t"], ["t"], ["a"], "s")
        self.accept_rule("pass", "r", ["t"], ["t"], ["a"], "s")

    def test_every_rule_of_two_shared_rights_and_a_sole_one(self):
        rights = ["a", "b", "s"]
        lists = [[right for right in rights if right in words] for words in ("", "a", "b", "s", "ab", "as", "bs", "abs")]
        for kind in ("claim", "drop", "give", "take", "pass"):
            many = 2 if kind in ("claim", "drop") else 3
            for row in itertools.product(lists, repeat=many):
                for right in rights:
                    rule = (kind, "r", *row, right)
                    if self.can_stand(kind, row, right):
                        kept = (kind, "r", *[tuple(words) for words in row], right)
                        self.assertEqual(Charter(rights=rights, sole=["s"], rules=[rule]).rules, (kept,))
                    else:
                        with self.assertRaises(InvalidCharter, msg=rule):
                            Charter(rights=rights, sole=["s"], rules=[rule])

    def can_stand(self, kind, row, right):
        if kind in ("claim", "give") and right == "s" or kind == "pass" and right != "s":
            return False
        if set(row[-1]) & set(row[-2]) or right in row[-1] or right in row[-2]:
            return False
        return kind != "pass" or right not in row[0]

    def test_needs_and_lacks(self):
        for kind in ("claim", "drop"):
            self.refuse_rule(kind, "r", ["a"], ["a"], "b")
            self.refuse_rule(kind, "r", ["a", "c"], ["s", "c"], "b")
            self.refuse_rule(kind, "r", ["a", "b"], [], "b")
            self.refuse_rule(kind, "r", [], ["b"], "b")

    def test_wants_and_lacks(self):
        for kind, right in [("give", "b"), ("take", "b"), ("take", "t"), ("pass", "s")]:
            self.refuse_rule(kind, "r", [], ["a"], ["a"], right)
            self.refuse_rule(kind, "r", [], ["c", "a"], ["a"], right)
            self.refuse_rule(kind, "r", [], ["a", right], [], right)
            self.refuse_rule(kind, "r", [], [], ["a", right], right)
            self.accept_rule(kind, "r", ["a", "c"], ["a"], ["c"], right)

    def test_the_right_among_the_needs(self):
        self.accept_rule("give", "r", ["b"], [], [], "b")
        self.accept_rule("take", "r", ["b"], [], [], "b")
        self.accept_rule("take", "r", ["s", "b"], [], [], "s")
        self.refuse_rule("pass", "r", ["s"], [], [], "s")
        self.refuse_rule("pass", "r", ["a", "s"], [], [], "s")

    def test_a_good_rule_behind_a_bad_one(self):
        for rule in GOOD:
            self.refuse(**self.given(("claim", "c", [], [], "s"), rule))
            self.refuse(**self.given(rule, ("claim", "c", [], [], "s")))


if __name__ == "__main__":
    unittest.main()
