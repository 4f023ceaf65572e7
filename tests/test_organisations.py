"""Points 15 to 18 and 22: people, actions, and what they change."""

import itertools
import unittest

from whoevermay.charters import Charter
from whoevermay.errors import InvalidAction, InvalidCharter, InvalidGoal, UnknownName
from whoevermay.organisations import Organisation, check_trusted, run

RIGHTS = ["need", "want", "lack", "key", "seal"]


def charter_of(founders, *rules, sole=("seal",)):
    return Charter(rights=RIGHTS, sole=sole, founders=founders, rules=rules)


def state(organisation):
    """All that an organisation tells, but for its charter."""
    held = [(person, organisation.holds(person)) for person in organisation.people]
    return (held, organisation.count, organisation.trusted)


class Actions(unittest.TestCase):
    def assert_done(self, organisation, action, after):
        before = state(organisation)
        self.assertIs(organisation.can_do(action), True)
        self.assertEqual(state(organisation), before)
        self.assertIsNone(organisation.do(action))
        self.assertEqual(state(organisation), (after, before[1] + 1, before[2]))

    def assert_not_done(self, organisation, action):
        before = state(organisation)
        self.assertIs(organisation.can_do(action), False)
        with self.assertRaises(InvalidAction) as caught:
            organisation.do(action)
        self.assertEqual(caught.exception.number, before[1])
        self.assertEqual(state(organisation), before)

    def refuse(self, rule, founders, action=("r", "ann", None), trusted=()):
        with self.subTest(rule=rule, founders=founders, action=action, trusted=trusted):
            self.assert_not_done(Organisation(charter_of(founders, rule), trusted=trusted), action)

    def accept(self, rule, founders, after, action=("r", "ann", None), trusted=()):
        with self.subTest(rule=rule, founders=founders, action=action, trusted=trusted):
            self.assert_done(Organisation(charter_of(founders, rule), trusted=trusted), action, after)


class Joins(Actions):
    rule = ("join", "r", ["want", "need"])

    def test_who_joins_stands_behind_all_others(self):
        office = Organisation(charter_of([("cid", ["key"]), ("bob", [])], self.rule, ("join", "r2", [])))
        self.assert_done(office, ("r", "ann", None), [("cid", ("key",)), ("bob", ()), ("ann", ("need", "want"))])
        self.assert_done(office, ("r2", "abe", None),
                         [("cid", ("key",)), ("bob", ()), ("ann", ("need", "want")), ("abe", ())])

    def test_without_founders(self):
        self.accept(self.rule, [], [("x", ("need", "want"))], action=("r", "x", None))

    def test_names_of_those_who_join(self):
        for name in ["a", "abcdefghijkl", "r", "key", "need", "join"]:
            self.accept(self.rule, [("ann", [])], [("ann", ()), (name, ("need", "want"))], action=("r", name, None))
        for name in ["", "Bob", "1b", "b b", "b\n", " b", "abcdefghijklm", "*", "-"]:
            self.refuse(self.rule, [("ann", [])], ("r", name, None))

    def test_names_that_somebody_has(self):
        self.refuse(self.rule, [("ann", []), ("bob", [])], ("r", "bob", None))
        self.refuse(self.rule, [("ann", []), ("bob", [])], ("r", "bob", None), trusted=["bob"])
        office = run(charter_of([], self.rule), [("r", "bob", None)])
        self.assert_not_done(office, ("r", "bob", None))
        self.assert_done(office, ("r", "cid", None), [("bob", ("need", "want")), ("cid", ("need", "want"))])

    def test_a_target_too_many(self):
        self.refuse(self.rule, [("ann", [])], ("r", "bob", "ann"))
        self.refuse(self.rule, [("ann", [])], ("r", "bob", "cid"))
        self.refuse(self.rule, [("ann", [])], ("r", "bob", "bob"))
        self.refuse(self.rule, [("ann", [])], ("r", "bob", ""))

    def test_joins_go_on_when_all_founders_are_trusted(self):
        self.accept(self.rule, [("ann", [])], [("ann", ()), ("bob", ("need", "want"))], ("r", "bob", None), ["ann"])


class Claims(Actions):
    rule = ("claim", "r", ["need"], ["lack"], "key")

    def test_a_claim(self):
        self.accept(self.rule, [("ann", ["need"]), ("bob", [])], [("ann", ("need", "key")), ("bob", ())])
        self.accept(self.rule, [("bob", []), ("ann", ["seal", "want", "need"])],
                    [("bob", ()), ("ann", ("need", "want", "key", "seal"))])

    def test_what_keeps_it_from_being_done(self):
        self.refuse(self.rule, [("ann", [])])
        self.refuse(self.rule, [("ann", ["want"]), ("bob", ["need"])])
        self.refuse(self.rule, [("ann", ["need", "lack"])])
        self.refuse(self.rule, [("ann", ["need", "key"])])
        self.refuse(self.rule, [("ann", ["need"])], trusted=["ann"])
        self.refuse(self.rule, [("ann", ["need"])], ("r", "bob", None))
        self.refuse(self.rule, [("ann", ["need"])], ("r", "", None))
        self.refuse(self.rule, [("ann", ["need"]), ("bob", [])], ("r", "ann", "bob"))
        self.refuse(self.rule, [("ann", ["need"])], ("r", "ann", "ann"))
        self.refuse(self.rule, [("ann", ["need"])], ("r", "ann", "cid"))

    def test_all_needs_and_none_of_the_lacks(self):
        rule = ("claim", "r", ["need", "want"], ["lack", "seal"], "key")
        self.accept(rule, [("ann", ["need", "want"])], [("ann", ("need", "want", "key"))])
        self.refuse(rule, [("ann", ["need"])])
        self.refuse(rule, [("ann", ["want"])])
        self.refuse(rule, [("ann", ["need", "want", "seal"])])
        self.refuse(rule, [("ann", ["need", "want", "lack"])])

    def test_others_may_hold_the_right(self):
        self.accept(self.rule, [("ann", ["need"]), ("bob", ["key", "lack"])],
                    [("ann", ("need", "key")), ("bob", ("lack", "key"))])

    def test_an_untrusted_founder_beside_a_trusted_one(self):
        self.accept(self.rule, [("ann", ["need"]), ("bob", [])], [("ann", ("need", "key")), ("bob", ())], trusted=["bob"])


class Drops(Actions):
    rule = ("drop", "r", ["need"], ["lack"], "key")

    def test_a_drop(self):
        self.accept(self.rule, [("ann", ["key", "need"]), ("bob", ["key"])], [("ann", ("need",)), ("bob", ("key",))])
        self.accept(("drop", "r", [], [], "seal"), [("ann", ["seal", "need"])], [("ann", ("need",))])

    def test_what_keeps_it_from_being_done(self):
        self.refuse(self.rule, [("ann", ["key"])])
        self.refuse(self.rule, [("ann", ["need", "lack", "key"])])
        self.refuse(self.rule, [("ann", ["need"]), ("bob", ["key"])])
        self.refuse(self.rule, [("ann", ["need", "key"])], trusted=["ann"])
        self.refuse(self.rule, [("ann", ["need", "key"])], ("r", "bob", None))
        self.refuse(self.rule, [("ann", ["need", "key"]), ("bob", ["key"])], ("r", "ann", "bob"))
        self.refuse(self.rule, [("ann", ["need", "key"])], ("r", "ann", "ann"))

    def test_a_sole_right_that_is_laid_down_is_gone(self):
        office = Organisation(charter_of([("ann", ["seal"]), ("bob", [])], ("drop", "r", [], [], "seal"),
                                         ("pass", "p", [], [], [], "seal")))
        office.do(("r", "ann", None))
        self.assertEqual(office.holders("seal"), [])
        for action in [("p", "ann", "bob"), ("p", "bob", "ann"), ("r", "ann", None)]:
            self.assert_not_done(office, action)


class Gives(Actions):
    rule = ("give", "r", ["need"], ["want"], ["lack"], "key")
    action = ("r", "ann", "bob")

    def test_a_give(self):
        self.accept(self.rule, [("ann", ["need"]), ("bob", ["want"])], [("ann", ("need",)), ("bob", ("want", "key"))],
                    self.action)
        self.accept(self.rule, [("ann", ["need", "lack", "key"]), ("bob", ["want", "seal"])],
                    [("ann", ("need", "lack", "key")), ("bob", ("want", "key", "seal"))], self.action)

    def test_what_keeps_it_from_being_done(self):
        self.refuse(self.rule, [("ann", []), ("bob", ["need", "want"])], self.action)
        self.refuse(self.rule, [("ann", ["need", "want"]), ("bob", [])], self.action)
        self.refuse(self.rule, [("ann", ["need"]), ("bob", ["want", "lack"])], self.action)
        self.refuse(self.rule, [("ann", ["need"]), ("bob", ["want", "key"])], self.action)
        self.refuse(self.rule, [("ann", ["need"]), ("bob", ["want"])], self.action, trusted=["ann"])
        self.refuse(self.rule, [("ann", ["need", "want"])], ("r", "ann", "ann"))
        self.refuse(self.rule, [("ann", ["need"]), ("bob", ["want"])], ("r", "ann", None))
        self.refuse(self.rule, [("ann", ["need"]), ("bob", ["want"])], ("r", "ann", "cid"))
        self.refuse(self.rule, [("ann", ["need"]), ("bob", ["want"])], ("r", "cid", "bob"))
        self.refuse(self.rule, [("ann", ["need"]), ("bob", ["want"])], ("r", "ann", ""))

    def test_the_right_may_be_a_need(self):
        rule = ("give", "r", ["key"], [], [], "key")
        self.accept(rule, [("ann", ["key"]), ("bob", [])], [("ann", ("key",)), ("bob", ("key",))], self.action)
        self.refuse(rule, [("ann", []), ("bob", [])], self.action)

    def test_others_act_on_trusted_founders(self):
        self.accept(self.rule, [("ann", ["need"]), ("bob", ["want"])], [("ann", ("need",)), ("bob", ("want", "key"))],
                    self.action, trusted=["bob"])


class Takes(Actions):
    rule = ("take", "r", ["need"], ["want"], ["lack"], "key")
    action = ("r", "ann", "bob")

    def test_a_take(self):
        self.accept(self.rule, [("ann", ["need"]), ("bob", ["want", "key"])], [("ann", ("need",)), ("bob", ("want",))],
                    self.action)
        self.accept(("take", "r", [], [], [], "seal"), [("ann", ["key"]), ("bob", ["seal", "need"])],
                    [("ann", ("key",)), ("bob", ("need",))], self.action)

    def test_what_keeps_it_from_being_done(self):
        self.refuse(self.rule, [("ann", ["key"]), ("bob", ["need", "want", "key"])], self.action)
        self.refuse(self.rule, [("ann", ["need", "want"]), ("bob", ["key"])], self.action)
        self.refuse(self.rule, [("ann", ["need"]), ("bob", ["want", "lack", "key"])], self.action)
        self.refuse(self.rule, [("ann", ["need", "key"]), ("bob", ["want"])], self.action)
        self.refuse(self.rule, [("ann", ["need"]), ("bob", ["want", "key"])], self.action, trusted=["ann"])
        self.refuse(self.rule, [("ann", ["need", "want", "key"])], ("r", "ann", "ann"))
        self.refuse(self.rule, [("ann", ["need", "want", "key"])], ("r", "ann", None))
        self.refuse(self.rule, [("ann", ["need"]), ("bob", ["want", "key"])], ("r", "ann", "cid"))
        self.refuse(self.rule, [("ann", ["need"]), ("bob", ["want", "key"])], ("r", "cid", "bob"))

    def test_the_right_may_be_a_need(self):
        rule = ("take", "r", ["key"], [], [], "key")
        self.accept(rule, [("ann", ["key"]), ("bob", ["key"])], [("ann", ("key",)), ("bob", ())], self.action)
        self.refuse(rule, [("ann", []), ("bob", ["key"])], self.action)
        # Nobody can take away a sole right that one needs oneself.
        self.refuse(("take", "r", ["seal"], [], [], "seal"), [("ann", ["seal"]), ("bob", [])], self.action)

    def test_others_act_on_trusted_founders(self):
        self.accept(self.rule, [("ann", ["need"]), ("bob", ["want", "key"])], [("ann", ("need",)), ("bob", ("want",))],
                    self.action, trusted=["bob", "bob"])


class Passes(Actions):
    rule = ("pass", "r", ["need"], ["want"], ["lack"], "seal")
    action = ("r", "ann", "bob")

    def test_a_pass(self):
        self.accept(self.rule, [("ann", ["need", "seal", "key", "lack"]), ("bob", ["want"])],
                    [("ann", ("need", "lack", "key")), ("bob", ("want", "seal"))], self.action)

    def test_what_keeps_it_from_being_done(self):
        self.refuse(self.rule, [("ann", ["seal"]), ("bob", ["need", "want"])], self.action)
        self.refuse(self.rule, [("ann", ["need", "seal", "want"]), ("bob", [])], self.action)
        self.refuse(self.rule, [("ann", ["need", "seal"]), ("bob", ["want", "lack"])], self.action)
        self.refuse(self.rule, [("ann", ["need"]), ("bob", ["want", "seal"])], self.action)
        self.refuse(self.rule, [("ann", ["need"]), ("bob", ["want"])], self.action)
        self.refuse(self.rule, [("ann", ["need", "seal"]), ("bob", ["want"])], self.action, trusted=["ann"])
        self.refuse(self.rule, [("ann", ["need", "seal", "want"])], ("r", "ann", "ann"))
        self.refuse(self.rule, [("ann", ["need", "seal"]), ("bob", ["want"])], ("r", "ann", None))
        self.refuse(self.rule, [("ann", ["need", "seal"]), ("bob", ["want"])], ("r", "ann", "cid"))
        self.refuse(self.rule, [("ann", ["need", "seal"]), ("bob", ["want"])], ("r", "cid", "bob"))

    def test_others_act_on_trusted_founders(self):
        self.accept(self.rule, [("ann", ["need", "seal"]), ("bob", ["want"])], [("ann", ("need",)), ("bob", ("want", "seal"))],
                    self.action, trusted=["bob"])

    def test_a_sole_right_goes_round(self):
        office = Organisation(charter_of([("ann", ["seal"]), ("bob", []), ("cid", [])], ("pass", "r", [], [], [], "seal")))
        for giver, taker in [("ann", "bob"), ("bob", "cid"), ("cid", "ann"), ("ann", "cid")]:
            office.do(("r", giver, taker))
            self.assertEqual(office.holders("seal"), [taker])


class AllActions(Actions):
    def test_rules_that_are_not_there(self):
        for name in ["x", "ann", "key", "join", "claim", "", "R", "no name"]:
            for action in [(name, "ann", None), (name, "ann", "bob"), (name, "new", None)]:
                self.refuse(("join", "r", []), [("ann", ["need", "key"]), ("bob", [])], action)

    def test_people_and_rules_with_the_names_of_rights(self):
        rules = [("join", "need", ["need"]), ("claim", "key", ["need"], [], "key"), ("give", "want", ["key"], [], [], "want")]
        office = Organisation(charter_of([("key", [])], *rules), trusted=["key"])
        self.assert_not_done(office, ("key", "key", None))
        self.assert_done(office, ("need", "need", None), [("key", ()), ("need", ("need",))])
        self.assert_done(office, ("key", "need", None), [("key", ()), ("need", ("need", "key"))])
        self.assert_done(office, ("want", "need", "key"), [("key", ("want",)), ("need", ("need", "key"))])
        self.assertEqual((office.holders("key"), office.holders("want")), (["need"], ["key"]))

    def test_those_who_joined_act_and_are_targets(self):
        rules = [("join", "hire", ["need"]), ("give", "g", ["need"], ["need"], [], "key"), ("take", "t", ["need"], [], [], "key")]
        office = run(charter_of([("ann", [])], *rules), [("hire", "bob", None), ("hire", "cid", None)])
        self.assert_done(office, ("g", "bob", "cid"), [("ann", ()), ("bob", ("need",)), ("cid", ("need", "key"))])
        self.assert_done(office, ("t", "bob", "cid"), [("ann", ()), ("bob", ("need",)), ("cid", ("need",))])

    def test_only_the_ones_who_are_named_change(self):
        founders = [("ann", ["need", "key"]), ("bob", ["want"]), ("cid", ["want"]), ("dan", ["need"]), ("eve", ["seal"])]
        office = Organisation(charter_of(founders, ("give", "r", ["need"], ["want"], [], "key")))
        self.assert_done(office, ("r", "dan", "cid"), [("ann", ("need", "key")), ("bob", ("want",)),
                                                      ("cid", ("want", "key")), ("dan", ("need",)), ("eve", ("seal",))])

    def test_every_kind_against_the_words_of_the_document(self):
        rights = ["a", "b", "s"]
        lists = list(itertools.chain.from_iterable(itertools.combinations(rights, size) for size in range(4)))
        pairs = [(ann, bob) for ann in lists for bob in lists if not ("s" in ann and "s" in bob)]
        for kind in ("claim", "drop", "give", "take", "pass"):
            for row in itertools.product(lists, repeat=2 if kind in ("claim", "drop") else 3):
                for right in rights:
                    self.compare((kind, "r", *row, right), pairs)

    def compare(self, rule, pairs):
        try:
            bare = Charter(rights=["a", "b", "s"], sole=["s"], rules=[rule])
        except InvalidCharter:
            return
        alone = rule[0] in ("claim", "drop")
        for ann, bob in pairs:
            office = Organisation(bare.with_founder("ann", ann).with_founder("bob", bob))
            action = ("r", "ann", None if alone else "bob")
            expected = outcome(rule, set(ann), set(bob))
            self.assertIs(office.can_do(action), expected is not None)
            if expected is not None:
                office.do(action)
                self.assertEqual((set(office.holds("ann")), set(office.holds("bob"))), expected)
                self.assertLess(len(office.holders("s")), 2)


def outcome(rule, ann, bob):
    """What ann and bob hold when ann acts by the rule, upon bob if it has a target, or None."""
    kind, right = rule[0], rule[-1]
    needs, lacks = set(rule[2]), set(rule[-2])
    if not needs <= ann:
        return None
    if kind == "claim":
        return (ann | {right}, bob) if not lacks & ann and right not in ann else None
    if kind == "drop":
        return (ann - {right}, bob) if not lacks & ann and right in ann else None
    if not set(rule[3]) <= bob or lacks & bob:
        return None
    if kind == "give":
        return (ann, bob | {right}) if right not in bob else None
    if kind == "take":
        return (ann, bob - {right}) if right in bob else None
    return (ann - {right}, bob | {right}) if right in ann and right not in bob else None


class Asking(unittest.TestCase):
    def setUp(self):
        rules = [("join", "hire", ["key"]), ("join", "visit", []), ("drop", "d", [], [], "key")]
        self.charter = charter_of([("cid", ["seal", "key"]), ("ann", []), ("bob", ["key", "need"])], *rules)
        self.actions = [("hire", "dan", None), ("visit", "abe", None), ("hire", "zoe", None)]

    def test_the_start(self):
        office = Organisation(self.charter)
        self.assertEqual(state(office), ([("cid", ("key", "seal")), ("ann", ()), ("bob", ("need", "key"))], 0, ()))
        self.assertIs(office.charter, self.charter)
        self.assertEqual(Organisation(Charter(rights=["key"])).people, [])

    def test_people_and_holders_in_their_order(self):
        office = run(self.charter, self.actions)
        self.assertEqual(office.people, ["cid", "ann", "bob", "dan", "abe", "zoe"])
        self.assertEqual(office.holders("key"), ["cid", "bob", "dan", "zoe"])
        self.assertEqual((office.holders("seal"), office.holders("need"), office.holders("lack")), (["cid"], ["bob"], []))
        self.assertEqual((office.holds("zoe"), office.holds("abe")), (("key",), ()))
        office.do(("d", "bob", None))
        self.assertEqual(office.holders("key"), ["cid", "dan", "zoe"])

    def test_the_order_of_the_holders_is_not_the_order_of_getting(self):
        charter = charter_of([("ann", []), ("bob", ["key"])], ("claim", "c", [], [], "key"), ("drop", "d", [], [], "key"))
        office = run(charter, [("c", "ann", None), ("d", "bob", None), ("c", "bob", None)])
        self.assertEqual((office.holders("key"), office.people), (["ann", "bob"], ["ann", "bob"]))

    def test_unknown_names(self):
        office = run(self.charter, self.actions)
        for ask, names in [(office.holds, ["eve", "hire", "key", "", "Cid"]), (office.holders, ["x", "ann", "hire", "", "Key"])]:
            for name in names:
                with self.assertRaises(UnknownName) as caught:
                    ask(name)
                self.assertEqual(caught.exception.name, name)

    def test_lists_that_are_returned_may_be_spoilt(self):
        office = run(self.charter, self.actions)
        before = state(office)
        for ask in (lambda: office.people, lambda: office.holders("key")):
            rows = ask()
            self.assertIsInstance(rows, list)
            rows.reverse()
            rows.append("x")
            self.assertNotEqual(rows, ask())
        self.assertEqual(state(office), before)
        self.assertEqual(office.holders("key"), ["cid", "bob", "dan", "zoe"])

    def test_a_copy_goes_on_by_itself(self):
        office = run(self.charter, self.actions, trusted=["ann"])
        before = state(office)
        twin = office.copy()
        self.assertIsInstance(twin, Organisation)
        self.assertEqual((state(twin), twin.charter), (before, self.charter))
        self.assertEqual(twin.count, 3)
        twin.do(("d", "cid", None))
        twin.do(("hire", "new", None))
        self.assertEqual(state(office), before)
        self.assertEqual((twin.count, twin.holds("cid"), twin.people[-1]), (5, ("seal",), "new"))
        after = state(twin)
        office.do(("d", "bob", None))
        self.assertEqual(state(twin), after)
        self.assertFalse(twin.can_do(("d", "ann", None)))
        self.assertEqual(twin.copy().trusted, ("ann",))

    def test_organisations_of_one_charter_are_apart(self):
        one, other = Organisation(self.charter), Organisation(self.charter)
        one.do(("d", "cid", None))
        self.assertEqual((other.holds("cid"), self.charter.founder("cid"), other.count), (("key", "seal"),) * 2 + (0,))


class Running(unittest.TestCase):
    def setUp(self):
        rules = [("join", "hire", ["key"]), ("claim", "c", [], [], "key"), ("drop", "d", [], [], "key")]
        self.charter = charter_of([("ann", []), ("bob", ["key"])], *rules)
        self.good = [("c", "ann", None), ("d", "bob", None), ("hire", "cid", None), ("d", "cid", None), ("c", "bob", None)]

    def assert_number(self, number, actions, trusted=()):
        with self.assertRaises(InvalidAction) as caught:
            run(self.charter, actions, trusted=trusted)
        self.assertEqual(caught.exception.number, number)

    def test_no_action(self):
        self.assertEqual(state(run(self.charter, [])), ([("ann", ()), ("bob", ("key",))], 0, ()))

    def test_good_actions(self):
        for actions in (self.good, tuple(self.good)):
            office = run(self.charter, actions)
            self.assertIsInstance(office, Organisation)
            self.assertEqual(state(office), ([("ann", ("key",)), ("bob", ("key",)), ("cid", ())], 5, ()))
        self.assertEqual(len(self.good), 5)

    def test_faulty_actions(self):
        for bad in [("d", "eve", None), ("x", "ann", None), ("c", "ann", "bob"), ("hire", "ann", None), ("hire", "A", None)]:
            for at in range(6):
                self.assert_number(at, [*self.good[:at], bad, *self.good[at:]])
        self.assert_number(1, [self.good[0], ("x", "x", None), ("y", "y", None)])

    def test_trusted_founders(self):
        self.assert_number(0, self.good, ["ann"])
        self.assert_number(1, self.good, ["bob"])
        self.assert_number(0, self.good, ("ann", "bob"))
        self.assert_number(2, [("c", "ann", None), ("hire", "cid", None), ("d", "bob", None)], ["bob"])
        office = run(self.charter, [("hire", "cid", None), ("d", "cid", None)], trusted=["bob", "ann"])
        self.assertEqual((office.trusted, office.count), (("bob", "ann"), 2))

    def test_going_on_behind_a_fault(self):
        office = run(self.charter, self.good[:2])
        for _ in range(2):
            with self.assertRaises(InvalidAction) as caught:
                office.do(("d", "bob", None))
            self.assertEqual((caught.exception.number, office.count), (2, 2))
        office.do(self.good[2])
        self.assertEqual(office.count, 3)


class Trusted(unittest.TestCase):
    def setUp(self):
        self.charter = charter_of([("ann", []), ("bob", [])], ("join", "hire", []))

    def test_founders(self):
        for trusted in ([], (), ["ann"], ("bob", "ann"), ["bob", "bob"]):
            self.assertIsNone(check_trusted(self.charter, trusted))
            self.assertEqual(Organisation(self.charter, trusted=trusted).trusted, tuple(trusted))

    def test_the_first_unknown_name(self):
        for trusted, name in [(["x"], "x"), (["ann", "y", "x"], "y"), (("x", "ann", "y"), "x"), (["hire"], "hire"),
                              (["bob", "key"], "key"), (["", "x"], ""), (["Ann"], "Ann")]:
            for ask in (lambda: check_trusted(self.charter, trusted), lambda: Organisation(self.charter, trusted=trusted),
                        lambda: run(self.charter, [], trusted=trusted),
                        lambda: run(self.charter, [("x", "x", "x")], trusted=trusted)):
                with self.assertRaises(UnknownName) as caught:
                    ask()
                self.assertEqual(caught.exception.name, name)

    def test_what_is_handed_in_stays_as_it_was(self):
        trusted, action = ["bob"], ["hire", "cid", None]
        office = Organisation(self.charter, trusted=trusted)
        office.do(action)
        trusted.append("ann")
        self.assertEqual((office.trusted, action), (("bob",), ["hire", "cid", None]))
        office.do(("hire", "dan", None))
        self.assertEqual((trusted, self.charter.founder_names), (["bob", "ann"], ("ann", "bob")))


class Larger(unittest.TestCase):
    """Point 22: a larger organisation can do what a smaller one can."""

    RULES = [("join", "j", ["need"]), ("claim", "c", ["need"], ["lack"], "key"), ("drop", "d", [], ["want"], "key"),
             ("give", "g", ["key"], [], ["lack"], "want"), ("take", "t", ["want"], ["need"], [], "key"),
             ("pass", "p", ["need"], [], ["key"], "seal")]
    SMALL = [("ann", ["need", "seal"]), ("bob", ["key"])]

    def setUp(self):
        self.small = Charter(rights=RIGHTS, sole=["seal"], founders=self.SMALL, rules=self.RULES)
        self.large = Charter(rights=["more", *RIGHTS[::-1]], sole=["seal"],
                             founders=[("cid", ["more", "key"]), *self.SMALL[::-1], ("dan", RIGHTS[:3])],
                             rules=[("take", "x", ["more"], [], [], "more"), *self.RULES])

    def test_every_action_of_the_first_three_moments(self):
        actions = [(rule[1], actor, target) for rule in self.RULES for actor in ("ann", "bob", "eve")
                   for target in (None, "ann", "bob", "eve")]
        goals = [[("ann", ["key"], ["want"]), (None, ["want"], [])], [(None, ["seal"], []), (None, ["key"], ["need"])]]
        pairs = [(Organisation(self.small, trusted=trusted), Organisation(self.large, trusted=more))
                 for trusted, more in [((), ()), (["bob"], ["bob"]), (["bob"], []), ([], ["cid", "dan"])]]
        met = 0
        for _ in range(3):
            further = []
            for small, large in pairs:
                met += sum(self.compare_goal(small, large, goal) for goal in goals)
                for action in actions:
                    if small.can_do(action):
                        self.assertTrue(large.can_do(action))
                        further.append((small.copy(), large.copy()))
                        further[-1][0].do(action)
                        further[-1][1].do(action)
            pairs = further
        self.assertGreater(len(pairs), 100)
        self.assertGreater(met, 0)

    def compare_goal(self, small, large, goal):
        self.assertTrue(large.meets(goal) or not small.meets(goal))
        return small.meets(goal)


class Example(unittest.TestCase):
    def test_example_of_the_interface(self):
        rules = [("join", "hire", []), ("give", "lend", ["key"], [], [], "key")]
        charter = Charter(rights=["key", "safe"], founders=[("ann", ["key"])], rules=rules)
        office = run(charter, [("hire", "bob", None), ("lend", "ann", "bob")])
        self.assertEqual(office.holds("bob"), ("key",))
        self.assertIs(office.meets([(None, ("key",), ()), (None, ("key",), ())]), True)
        with self.assertRaises(InvalidGoal):
            office.meets([])


if __name__ == "__main__":
    unittest.main()
