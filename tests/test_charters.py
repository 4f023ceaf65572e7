"""Points 3, 4, 5, 7 and 8: charters that can be created, and what they tell."""

import unittest

from whoevermay.charters import Charter
from whoevermay.errors import InvalidCharter, UnknownName

SIX = ["read", "write", "key", "seal", "desk", "boss"]


def as_tuple(value):
    """The value with all lists in it as tuples."""
    return tuple(as_tuple(part) for part in value) if isinstance(value, (list, tuple)) else value


def as_list(value):
    """The value with all tuples in it as lists."""
    return [as_list(part) for part in value] if isinstance(value, (list, tuple)) else value


def parts():
    """A charter of six rights, five founders and twelve rules of all kinds, its lists in no order."""
    return {
        "rights": list(SIX),
        "sole": ["boss", "seal"],
        "founders": [("ann", ["boss", "key", "read"]), ("bob", ["seal"]), ("cid", []),
                     ("dan", list(reversed(SIX[:3]))), ("eve", ["desk", "write"])],
        "rules": [
            ("join", "j1", ["key", "read"]),
            ("join", "j2", []),
            ("claim", "c1", ["boss", "read"], ["seal", "write"], "key"),
            ("claim", "c2", [], [], "read"),
            ("drop", "d1", ["key", "read"], ["boss", "write"], "seal"),
            ("drop", "d2", [], [], "read"),
            ("give", "g1", ["seal", "key", "write"], ["desk", "read"], ["boss", "seal"], "key"),
            ("give", "g2", [], [], [], "write"),
            ("take", "t1", ["boss", "seal", "read"], ["key", "write"], ["desk", "read"], "boss"),
            ("take", "t2", [], [], [], "desk"),
            ("pass", "p1", ["boss", "key", "read"], ["desk", "key"], ["boss", "write"], "seal"),
            ("pass", "p2", [], [], [], "boss"),
        ],
    }


ORDERED_FOUNDERS = (
    ("ann", ("read", "key", "boss")), ("bob", ("seal",)), ("cid", ()), ("dan", ("read", "write", "key")),
    ("eve", ("write", "desk")))
ORDERED_RULES = (
    ("join", "j1", ("read", "key")),
    ("join", "j2", ()),
    ("claim", "c1", ("read", "boss"), ("write", "seal"), "key"),
    ("claim", "c2", (), (), "read"),
    ("drop", "d1", ("read", "key"), ("write", "boss"), "seal"),
    ("drop", "d2", (), (), "read"),
    ("give", "g1", ("write", "key", "seal"), ("read", "desk"), ("seal", "boss"), "key"),
    ("give", "g2", (), (), (), "write"),
    ("take", "t1", ("read", "seal", "boss"), ("write", "key"), ("read", "desk"), "boss"),
    ("take", "t2", (), (), (), "desk"),
    ("pass", "p1", ("read", "key", "boss"), ("key", "desk"), ("write", "boss"), "seal"),
    ("pass", "p2", (), (), (), "boss"),
)


class Creating(unittest.TestCase):
    def assert_full(self, charter):
        self.assertEqual(charter.rights, tuple(SIX))
        self.assertEqual(charter.sole, ("seal", "boss"))
        self.assertEqual(charter.founders, ORDERED_FOUNDERS)
        self.assertEqual(charter.rules, ORDERED_RULES)

    def test_all_fields_are_tuples_in_order(self):
        self.assert_full(Charter(**parts()))

    def test_lists_within_lists_and_tuples_within_tuples(self):
        given = parts()
        self.assert_full(Charter(**{key: as_list(value) for key, value in given.items()}))
        self.assert_full(Charter(**{key: as_tuple(value) for key, value in given.items()}))
        self.assert_full(Charter(**as_parts(Charter(**given))))

    def test_later_changes_have_no_effect(self):
        given = {key: as_list(value) for key, value in parts().items()}
        charter = Charter(**given)
        for rows in (given["founders"], given["rules"]):
            for row in rows:
                for part in row:
                    if isinstance(part, list):
                        part.append("desk")
                        part.reverse()
                row[0] = "x"
                row.append("x")
        for rows in given.values():
            rows.append("x")
            rows.reverse()
        self.assert_full(charter)

    def test_nothing_that_is_handed_in_changes(self):
        given = parts()
        Charter(**given)
        self.assertEqual(given, parts())

    def test_a_charter_of_rights_alone(self):
        for rights in (["key"], ("key",), SIX, tuple(SIX)):
            charter = Charter(rights=rights)
            self.assertEqual((charter.rights, charter.sole, charter.founders, charter.rules), (tuple(rights), (), (), ()))
            self.assertEqual((charter.shared, charter.founder_names, charter.rule_names), (tuple(rights), (), ()))

    def test_numbers_of_rights_founders_and_rules(self):
        names = [f"n{number}" for number in range(13)]
        for many in range(1, 7):
            self.assertEqual(Charter(rights=names[:many]).rights, tuple(names[:many]))
        for many in range(6):
            founders = tuple((name, ("key",)) for name in names[:many])
            self.assertEqual(Charter(rights=["key"], founders=founders).founders, founders)
        for many in range(13):
            rules = tuple(("join", name, ("key",)) for name in names[:many])
            self.assertEqual(Charter(rights=["key"], rules=rules).rules, rules)

    def test_arguments_only_by_name(self):
        with self.assertRaises(TypeError):
            Charter(["key"])

    def test_a_right_a_person_and_a_rule_of_one_name(self):
        charter = Charter(rights=["a"], sole=["a"], founders=[("a", ["a"])], rules=[("join", "a", [])])
        self.assertEqual((charter.founder("a"), charter.rule("a")), (("a",), ("join", "a", ())))

    def test_a_sole_right_that_nobody_or_one_founder_holds(self):
        for held in ([], ["key"]):
            charter = Charter(rights=["key", "read"], sole=["key"], founders=[("ann", held), ("bob", ["read"])])
            self.assertEqual(charter.founder("ann"), tuple(held))

    def test_all_rights_are_sole(self):
        charter = Charter(rights=["b", "a"], sole=["a", "b"], founders=[("ann", ["a", "b"])])
        self.assertEqual((charter.sole, charter.shared, charter.founders), (("b", "a"), (), (("ann", ("b", "a")),)))


def as_parts(charter):
    """The arguments that make the same charter again."""
    return {"rights": charter.rights, "sole": charter.sole, "founders": charter.founders, "rules": charter.rules}


class Asking(unittest.TestCase):
    def setUp(self):
        self.charter = Charter(**parts())

    def assert_unknown(self, name, ask, *words):
        with self.assertRaises(UnknownName) as caught:
            ask(*words)
        self.assertEqual(caught.exception.name, name)

    def test_names_in_order(self):
        self.assertEqual(self.charter.founder_names, ("ann", "bob", "cid", "dan", "eve"))
        self.assertEqual(self.charter.rule_names,
                         ("j1", "j2", "c1", "c2", "d1", "d2", "g1", "g2", "t1", "t2", "p1", "p2"))
        self.assertEqual(self.charter.shared, ("read", "write", "key", "desk"))

    def test_rule(self):
        for rule in ORDERED_RULES:
            self.assertEqual(self.charter.rule(rule[1]), rule)
        for name in ["nothing", "ann", "key", "join", "", "J1", "no name", "abcdefghijklm"]:
            self.assert_unknown(name, self.charter.rule, name)

    def test_founder(self):
        for person, held in ORDERED_FOUNDERS:
            self.assertEqual(self.charter.founder(person), held)
        for name in ["nobody", "j1", "key", "founder", "", "Ann", "no name", "abcdefghijklm"]:
            self.assert_unknown(name, self.charter.founder, name)

    def test_ordered(self):
        self.assertEqual(self.charter.ordered([]), ())
        self.assertEqual(self.charter.ordered(("boss",)), ("boss",))
        self.assertEqual(self.charter.ordered(["boss", "key", "read"]), ("read", "key", "boss"))
        words = ["boss", "key", "boss", "read", "key", "boss"]
        self.assertEqual(self.charter.ordered(words), ("read", "key", "boss"))
        self.assertEqual(words, ["boss", "key", "boss", "read", "key", "boss"])
        self.assertEqual(self.charter.ordered(SIX[::-1] * 2), tuple(SIX))

    def test_ordered_tells_the_first_strange_word(self):
        for words, name in [(["x"], "x"), (["key", "x", "y"], "x"), (["y", "x"], "y"), (["key", "ann", "j1"], "ann"),
                            (["key", "j1"], "j1"), (["read", "", "X"], ""), (("key", "no name"), "no name"),
                            (["key", "key", "Key"], "Key")]:
            self.assert_unknown(name, self.charter.ordered, words)

    def test_without_rules(self):
        left = self.charter.without_rules(["p2", "j1", "g1", "p2"])
        names = ("j2", "c1", "c2", "d1", "d2", "g2", "t1", "t2", "p1")
        self.assertEqual(left.rule_names, names)
        self.assertEqual(left.rules, tuple(rule for rule in ORDERED_RULES if rule[1] in names))
        self.assertEqual((left.rights, left.sole, left.founders), (tuple(SIX), ("seal", "boss"), ORDERED_FOUNDERS))
        self.assertEqual(self.charter.without_rules([]).rules, ORDERED_RULES)
        self.assertEqual(self.charter.without_rules(self.charter.rule_names).rules, ())
        self.assertEqual(self.charter.rules, ORDERED_RULES)

    def test_without_rules_tells_the_first_strange_name(self):
        for names, name in [(["x"], "x"), (["j1", "x", "y"], "x"), (["y", "j1", "x"], "y"), (["j1", "ann"], "ann"),
                            (("key", "j1"), "key"), (["j1", "j1", ""], ""), (["No Name"], "No Name")]:
            self.assert_unknown(name, self.charter.without_rules, names)
        self.assertEqual(self.charter.rules, ORDERED_RULES)


class Changing(unittest.TestCase):
    def setUp(self):
        rules = [("join", "j", []), ("claim", "c", [], [], "key"), ("drop", "d", [], [], "key")]
        self.charter = Charter(rights=["read", "key", "seal"], sole=["seal"],
                               founders=[("ann", ["seal"]), ("bob", ["key"]), ("cid", [])], rules=rules)
        self.before = as_parts(self.charter)

    def tearDown(self):
        self.assertEqual(as_parts(self.charter), self.before)

    def assert_refused(self, ask, *words):
        with self.assertRaises(InvalidCharter) as caught:
            ask(*words)
        self.assertNotIsInstance(caught.exception, UnknownName)

    def test_a_new_rule_stands_behind_all_others(self):
        rule = ["give", "g", ["key", "read"], [], ["seal", "key"], "read"]
        changed = self.charter.with_rule(rule)
        self.assertEqual(changed.rules, (*self.before["rules"], ("give", "g", ("read", "key"), (), ("key", "seal"), "read")))
        rule[2].append("seal")
        self.assertEqual(changed.rule("g")[2], ("read", "key"))
        self.assertEqual((changed.rights, changed.sole, changed.founders),
                         (self.charter.rights, self.charter.sole, self.charter.founders))

    def test_a_rule_of_a_known_name_keeps_its_place(self):
        for at, name in enumerate(["j", "c", "d"]):
            changed = self.charter.with_rule(("take", name, [], ["read"], [], "key"))
            rules = list(self.before["rules"])
            rules[at] = ("take", name, (), ("read",), (), "key")
            self.assertEqual(changed.rules, tuple(rules))

    def test_rules_that_make_no_charter(self):
        for rule in [(), [], ("join",), ("j",), ("join", "j"), ("claim", "new", [], [], "seal"), ("claim", "c", [], [], "seal"),
                     ("claim", "New", [], [], "key"), ("claim", "", [], [], "key"), ("claim", "new", ["x"], [], "key"),
                     ("claim", "new", [], [], "x"), ("fire", "new", [], [], "key"), ("fire", "j"),
                     ("claim", "new", [], [], [], "key"), ("claim", "new", ["read", "read"], [], "key")]:
            with self.subTest(rule):
                self.assert_refused(self.charter.with_rule, rule)

    def test_the_thirteenth_rule(self):
        full = Charter(rights=["key"], rules=[("join", f"j{number}", []) for number in range(12)])
        self.assert_refused(full.with_rule, ("join", "j12", []))
        self.assertEqual(full.with_rule(("join", "j3", ["key"])).rules[3], ("join", "j3", ("key",)))
        self.assertEqual(len(full.rules), 12)

    def test_a_new_founder_stands_behind_all_others(self):
        held = ["key", "read"]
        changed = self.charter.with_founder("dan", held)
        self.assertEqual(changed.founders, (*self.before["founders"], ("dan", ("read", "key"))))
        self.assertEqual((changed.rights, changed.sole, changed.rules),
                         (self.charter.rights, self.charter.sole, self.charter.rules))
        self.assertEqual(held, ["key", "read"])
        held.append("seal")
        self.assertEqual(changed.founder("dan"), ("read", "key"))

    def test_a_founder_of_a_known_name_keeps_its_place(self):
        for at, name in enumerate(["ann", "bob", "cid"]):
            changed = self.charter.with_founder(name, ("key", "read"))
            founders = list(self.before["founders"])
            founders[at] = (name, ("read", "key"))
            self.assertEqual(changed.founders, tuple(founders))

    def test_who_holds_a_sole_right_may_be_set_again(self):
        self.assertEqual(self.charter.with_founder("ann", ["seal", "key"]).founder("ann"), ("key", "seal"))
        handed = self.charter.with_founder("ann", []).with_founder("bob", ["seal"])
        self.assertEqual(handed.founders, (("ann", ()), ("bob", ("seal",)), ("cid", ())))

    def test_founders_that_make_no_charter(self):
        for person, held in [("bob", ["seal"]), ("dan", ["seal"]), ("dan", ["x"]), ("dan", ["key", "key"]),
                             ("bob", ["key", "x"]), ("Dan", []), ("", []), ("abcdefghijklm", [])]:
            with self.subTest((person, held)):
                self.assert_refused(self.charter.with_founder, person, held)

    def test_the_sixth_founder(self):
        full = Charter(rights=["key"], founders=[(f"n{number}", []) for number in range(5)])
        self.assert_refused(full.with_founder, "n5", [])
        self.assertEqual(full.with_founder("n4", ["key"]).founders[4], ("n4", ("key",)))
        self.assertEqual(len(full.founders), 5)


class Example(unittest.TestCase):
    def test_example_of_the_interface(self):
        charter = Charter(rights=["read", "key"], sole=["key"], founders=[("ann", ["key", "read"])],
                          rules=[("pass", "hand", [], ["read"], [], "key")])
        self.assertEqual(charter.founder("ann"), ("read", "key"))
        self.assertEqual(charter.shared, ("read",))
        with self.assertRaises(InvalidCharter):
            charter.with_rule(("claim", "grab", [], [], "key"))


if __name__ == "__main__":
    unittest.main()
