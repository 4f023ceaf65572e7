"""Points 41 to 49 and 52: questions with several searches."""

import copy
import itertools
import random
import unittest

from helpers import draw_charter, draw_goal, draw_trusted, goal_met_by, told, walk
from whoevermay.charters import Charter
from whoevermay.errors import InvalidGoal, InvalidQuestion, TooMany, UnknownName
from whoevermay.questions import cuts, idle_rules, needed_rules, reachable_types, together, trust_cuts, who_can
from whoevermay.reach import can_come

GIVE = ("give", "hand", ("boss",), (), (), "sign")
OFFICE = Charter(rights=["boss", "sign", "pay"], founders=[("ann", ["boss"]), ("bob", ["pay"])], rules=[GIVE])

DESK = Charter(rights=["boss", "desk", "key"], founders=[("ann", ["boss"])],
               rules=[("join", "hire", ("desk",)), ("claim", "sit", ("desk",), (), "key"),
                      ("give", "lend", ("boss",), ("desk",), (), "key")])
KEY = [(None, ("key",), ())]


class WhoCan(unittest.TestCase):
    def test_nobody_somebody_and_everybody(self):
        self.assertEqual(who_can(OFFICE, "sign"), ["bob"])
        self.assertEqual(who_can(OFFICE.with_rule(("drop", "hand", [], [], "pay")), "sign"), [])
        self.assertEqual(who_can(OFFICE.with_founder("abe", ["boss"]), "sign"), ["ann", "bob", "abe"])
        self.assertEqual(who_can(Charter(rights=["a"], rules=[("join", "j", ["a"])]), "a"), [])

    def test_founders_who_hold_the_right_at_the_start(self):
        self.assertEqual(who_can(OFFICE, "boss"), ["ann"])
        self.assertEqual(who_can(OFFICE, "pay", trusted=["ann", "bob"]), ["bob"])
        charter = Charter(rights=["a"], founders=[("zoe", ["a"]), ("bob", []), ("ann", ["a"])], rules=[("drop", "d", [], [], "a")])
        self.assertEqual(who_can(charter, "a"), ["zoe", "ann"])

    def test_trusted_founders(self):
        self.assertEqual(who_can(OFFICE, "sign", trusted=["ann"]), [])
        self.assertEqual(who_can(OFFICE, "sign", trusted=["bob"]), ["bob"])

    def test_errors(self):
        for right in ("nil", "ann", "hand", ""):
            with self.assertRaises(UnknownName) as caught:
                who_can(OFFICE, right, trusted=["zoe"])
            self.assertEqual(caught.exception.name, right)
        for charter in (OFFICE, Charter(rights=["sign"])):
            with self.assertRaises(UnknownName) as caught:
                who_can(charter, "sign", trusted=["zoe", "yan"], limit=1)
            self.assertEqual(caught.exception.name, "zoe")
        with self.assertRaises(TooMany) as caught:
            who_can(OFFICE, "sign", limit=1)
        self.assertEqual(caught.exception.limit, 1)


class Together(unittest.TestCase):
    def test_pairs(self):
        self.assertEqual(together(OFFICE), [("sign", "pay")])
        self.assertEqual(together(OFFICE, trusted=["ann"]), [])
        self.assertEqual(together(OFFICE.with_founder("cid", ["pay", "boss"])), [("boss", "sign"), ("boss", "pay"), ("sign", "pay")])
        self.assertEqual(together(Charter(rights=["a"], founders=[("ann", ["a"])])), [])
        self.assertEqual(together(Charter(rights=["a", "b"])), [])

    def test_all_pairs_in_their_order(self):
        charter = Charter(rights=["d", "b", "a", "c"], rules=[("join", "j", ["a", "b", "c", "d"])])
        self.assertEqual(together(charter), [("d", "b"), ("d", "a"), ("d", "c"), ("b", "a"), ("b", "c"), ("a", "c")])

    def test_errors(self):
        for charter in (OFFICE, Charter(rights=["a"], founders=[("ann", [])])):
            with self.assertRaises(UnknownName) as caught:
                together(charter, trusted=["ann", "zoe"], limit=1)
            self.assertEqual(caught.exception.name, "zoe")
        with self.assertRaises(TooMany):
            together(OFFICE, limit=1)


class Types(unittest.TestCase):
    def test_none_and_all(self):
        self.assertEqual(reachable_types(Charter(rights=["a", "b"])), [])
        charter = Charter(rights=["c", "a", "b"], rules=[("join", "j", []), *[("claim", f"c{right}", [], [], right) for right in "abc"]])
        self.assertEqual(reachable_types(charter), [(), ("c",), ("a",), ("b",), ("c", "a"), ("c", "b"), ("a", "b"), ("c", "a", "b")])

    def test_some(self):
        self.assertEqual(reachable_types(OFFICE), [("boss",), ("pay",), ("sign", "pay")])
        self.assertEqual(reachable_types(OFFICE, trusted=["ann"]), [("boss",), ("pay",)])
        self.assertEqual(reachable_types(DESK), [("boss",), ("desk",), ("desk", "key")])
        self.assertEqual(reachable_types(Charter(rights=["a"], founders=[("ann", [])])), [()])

    def test_errors(self):
        with self.assertRaises(UnknownName):
            reachable_types(OFFICE, trusted=["zoe"], limit=1)
        with self.assertRaises(TooMany):
            reachable_types(DESK, limit=1)


class NeededRules(unittest.TestCase):
    def test_needed_rules(self):
        self.assertEqual(needed_rules(DESK, KEY), ["hire"])
        self.assertEqual(needed_rules(DESK.without_rules(["sit"]), KEY), ["hire", "lend"])
        self.assertEqual(needed_rules(DESK, KEY, trusted=["ann"]), ["hire", "sit"])
        self.assertEqual(needed_rules(DESK, [("ann", ["boss"], [])]), [])
        self.assertEqual(needed_rules(OFFICE, [(None, ["sign"], [])]), ["hand"])

    def test_never_reached_by_the_charter_itself(self):
        self.assertIsNone(needed_rules(DESK, [("ann", ["key"], [])]))
        self.assertIsNone(needed_rules(OFFICE, [(None, ["sign"], [])], trusted=["ann"]))
        self.assertIsNone(needed_rules(Charter(rights=["a"]), [(None, [], [])]))

    def test_errors(self):
        with self.assertRaises(UnknownName) as caught:
            needed_rules(DESK, [("bob", [], [])], trusted=["zoe"])
        self.assertEqual(caught.exception.name, "bob")
        with self.assertRaises(InvalidGoal):
            needed_rules(DESK, [], trusted=["zoe"])
        with self.assertRaises(UnknownName) as caught:
            needed_rules(DESK, KEY, trusted=["zoe"], limit=1)
        self.assertEqual(caught.exception.name, "zoe")
        with self.assertRaises(TooMany):
            needed_rules(DESK, KEY, limit=1)


class Cuts(unittest.TestCase):
    # The goal is reached by a, by b and c together, and by d, each time with e.
    MANY = Charter(rights=["p", "q", "r", "goal"], founders=[("ann", [])],
                   rules=[("claim", "e", [], [], "p"), ("claim", "a", ["p"], [], "goal"), ("claim", "b", ["p"], [], "q"),
                          ("claim", "c", ["q"], [], "goal"), ("claim", "d", ["p"], ["q"], "goal")])
    GOAL = [(None, ["goal"], [])]

    def test_the_example(self):
        self.assertEqual(cuts(DESK, KEY), [("hire",), ("sit", "lend")])

    def test_cuts_of_one_two_and_three_rules(self):
        self.assertEqual(cuts(self.MANY, self.GOAL, most=1), [("e",)])
        self.assertEqual(cuts(self.MANY, self.GOAL, most=2), [("e",)])
        self.assertEqual(cuts(self.MANY, self.GOAL), [("e",)])
        self.assertEqual(cuts(self.MANY, self.GOAL, most=3), [("e",), ("a", "b", "d"), ("a", "c", "d")])
        self.assertEqual(cuts(DESK, KEY, most=3), [("hire",), ("sit", "lend")])
        self.assertEqual(cuts(DESK, KEY, most=1), [("hire",)])

    def test_no_cut(self):
        self.assertEqual(cuts(DESK, [("ann", ["boss"], [])], most=3), [])
        self.assertEqual(cuts(Charter(rights=["a"], founders=[("ann", [])]), [(None, [], [])], most=3), [])

    def test_never_reached_by_the_charter_itself(self):
        for most in (1, 2, 3):
            self.assertEqual(cuts(DESK, [("ann", ["key"], [])], most=most), [()])
            self.assertEqual(cuts(OFFICE, [(None, ["sign"], [])], most=most, trusted=["ann"]), [()])

    def test_trusted_founders(self):
        self.assertEqual(cuts(DESK, KEY, trusted=["ann"]), [("hire",), ("sit",)])

    def test_the_order_of_cuts(self):
        rules = [("claim", name, [], [], "a") for name in ("z", "b", "y")] + [("claim", name, ["a"], [], "b") for name in ("x", "c")]
        charter = Charter(rights=["a", "b"], founders=[("ann", [])], rules=rules)
        self.assertEqual(cuts(charter, [(None, ["b"], [])], most=3), [("x", "c"), ("z", "b", "y")])
        charter = Charter(rights=["a", "b"], founders=[("ann", [])], rules=rules[3:] + rules[:1])
        self.assertEqual(cuts(charter, [(None, ["b"], [])], most=3), [("z",), ("x", "c")])

    def test_other_greatest_numbers(self):
        for function in (cuts, trust_cuts):
            for most in (0, 4, -1, 100):
                for goal in (KEY, [("ann", ["key"], [])]):
                    with self.assertRaises(InvalidQuestion):
                        function(DESK, goal, most=most)

    def test_the_order_of_errors(self):
        for function in (cuts, trust_cuts):
            with self.assertRaises(UnknownName) as caught:
                function(DESK, [("bob", ["nil"], []), ("ann", [], []), ("ann", [], [])], most=0, trusted=["zoe"], limit=1)
            self.assertEqual(caught.exception.name, "bob")
            with self.assertRaises(InvalidGoal):
                function(DESK, [], most=0, trusted=["zoe"], limit=1)
            with self.assertRaises(InvalidQuestion):
                function(DESK, KEY, most=4, trusted=["zoe"], limit=1)
            with self.assertRaises(UnknownName) as caught:
                function(DESK, KEY, most=3, trusted=["ann", "zoe"], limit=1)
            self.assertEqual(caught.exception.name, "zoe")
            with self.assertRaises(TooMany) as caught:
                function(DESK, KEY, limit=1)
            self.assertEqual(caught.exception.limit, 1)


class TrustCuts(unittest.TestCase):
    # Ann can come to the right by herself and from bob; cid from dan or eve together with bob.
    CHARTER = Charter(rights=["a", "b", "c"], founders=[("ann", ["a"]), ("bob", ["b"]), ("cid", []), ("dan", ["a"]), ("eve", ["a"])],
                      rules=[("give", "g", ["a"], [], ["a", "b"], "c"), ("give", "h", ["b"], [], ["a"], "c")])

    def test_trust_cuts(self):
        goal = [("cid", ["c"], [])]
        self.assertEqual(trust_cuts(self.CHARTER, goal, most=3), [])
        self.assertEqual(trust_cuts(self.CHARTER, goal, most=3, trusted=["eve"]), [("ann", "bob", "dan")])
        self.assertEqual(trust_cuts(self.CHARTER, goal, trusted=["eve"]), [])
        self.assertEqual(trust_cuts(self.CHARTER, goal, trusted=["eve", "ann"]), [("bob", "dan")])
        self.assertEqual(trust_cuts(self.CHARTER, goal, trusted=["dan", "eve", "ann"], most=1), [("bob",)])
        self.assertEqual(trust_cuts(DESK, KEY), [])
        self.assertEqual(trust_cuts(DESK.without_rules(["sit"]), KEY), [("ann",)])
        self.assertEqual(trust_cuts(OFFICE, [(None, ["sign"], [])]), [("ann",)])

    def test_several_cuts_in_their_order(self):
        charter = Charter(rights=["a", "b"], founders=[("zoe", []), ("bob", ["a"]), ("abe", [])],
                          rules=[("give", "g", ["a"], [], [], "a"), ("claim", "c", ["a"], [], "b")])
        self.assertEqual(trust_cuts(charter, [("abe", ["b"], [])], most=3), [("bob",), ("abe",)])
        self.assertEqual(trust_cuts(charter, [("abe", ["a"], [])], most=3), [("bob",)])
        self.assertEqual(trust_cuts(charter, [("zoe", ["a"], []), ("abe", ["b"], [])], most=1), [("bob",), ("abe",)])
        self.assertEqual(trust_cuts(charter, [(None, ["b"], [])], most=3), [("bob",)])
        more = charter.with_founder("cid", ["a"])
        self.assertEqual(trust_cuts(more, [("zoe", ["a"], []), ("abe", ["b"], [])], most=2), [("abe",), ("bob", "cid")])

    def test_never_reached_by_the_charter_itself(self):
        self.assertEqual(trust_cuts(DESK, [("ann", ["key"], [])]), [()])
        self.assertEqual(trust_cuts(OFFICE, [(None, ["sign"], [])], trusted=["ann"], most=1), [()])

    def test_no_cut(self):
        self.assertEqual(trust_cuts(OFFICE, [("ann", ["boss"], [])], most=3), [])
        self.assertEqual(trust_cuts(OFFICE, [("ann", ["boss"], [])], most=3, trusted=["ann", "bob"]), [])


class IdleRules(unittest.TestCase):
    def idle(self, founders, *rules, sole=()):
        return idle_rules(Charter(rights=["n", "w", "l", "k"], sole=sole, founders=founders, rules=rules))

    def assert_use(self, rule, usable, idle, sole=()):
        """The rule is of use for these founders, and idle for those."""
        for founders in usable:
            self.assertEqual(self.idle([(name, list(held)) for name, held in founders], rule, sole=sole), [], founders)
        for founders in idle:
            self.assertEqual(self.idle([(name, list(held)) for name, held in founders], rule, sole=sole), ["r"], founders)

    def test_claim(self):
        self.assert_use(("claim", "r", ["n"], ["l"], "k"), [[("ann", "n")], [("ann", "nw"), ("bob", "l")]],
                        [[], [("ann", "")], [("ann", "nl")], [("ann", "nk")], [("ann", "w"), ("bob", "nk")]])

    def test_drop(self):
        self.assert_use(("drop", "r", ["n"], ["l"], "k"), [[("ann", "nk")], [("ann", "nkw"), ("bob", "l")]],
                        [[], [("ann", "n")], [("ann", "nlk")], [("ann", "k")], [("ann", "k"), ("bob", "n")]])

    def test_give(self):
        self.assert_use(("give", "r", ["n"], ["w"], ["l"], "k"), [[("ann", "n"), ("bob", "w")], [("ann", "nk"), ("bob", "nw")]],
                        [[], [("ann", "nw")], [("ann", "n"), ("bob", "wk")], [("ann", "n"), ("bob", "wl")], [("ann", "n"), ("bob", "")],
                         [("ann", "w"), ("bob", "w")]])

    def test_take(self):
        self.assert_use(("take", "r", ["n"], ["w"], ["l"], "k"), [[("ann", "n"), ("bob", "wk")], [("ann", "nk"), ("bob", "nwk")]],
                        [[], [("ann", "nwk")], [("ann", "n"), ("bob", "w")], [("ann", "n"), ("bob", "wlk")], [("ann", "n"), ("bob", "k")],
                         [("ann", "w"), ("bob", "wk")]])

    def test_pass(self):
        self.assert_use(("pass", "r", ["n"], ["w"], ["l"], "k"), [[("ann", "nk"), ("bob", "w")], [("ann", "nk"), ("bob", "nw")]],
                        [[], [("ann", "nwk")], [("ann", "n"), ("bob", "wk")], [("ann", "nk"), ("bob", "wl")], [("ann", "nk"), ("bob", "")],
                         [("ann", "k"), ("bob", "w")], [("ann", "n"), ("bob", "w")]], sole=["k"])

    def test_a_sole_right_that_cannot_be_with_two(self):
        take = ("take", "r", ["k"], [], [], "k")
        self.assertEqual(self.idle([("ann", ["k"]), ("bob", [])], take, sole=["k"]), ["r"])
        self.assertEqual(self.idle([("ann", ["k"]), ("bob", ["k"])], take), [])

    def test_joins_are_never_idle(self):
        self.assertEqual(self.idle([], ("join", "j", ["n"]), ("drop", "z", [], [], "l"), ("claim", "c", ["n"], [], "k"),
                                   ("join", "i", []), ("drop", "d", [], [], "k"), ("take", "a", [], [], [], "l")), ["z", "a"])

    def test_rules_that_others_make_usable(self):
        first, second = ("claim", "c", [], [], "n"), ("claim", "r", ["n"], [], "k")
        self.assertEqual(self.idle([("ann", [])], second), ["r"])
        self.assertEqual(self.idle([("ann", [])], second, first), [])
        self.assertEqual(self.idle([], second, first), ["r", "c"])

    def test_too_many(self):
        with self.assertRaises(TooMany) as caught:
            idle_rules(Cuts.MANY, limit=1)
        self.assertEqual(caught.exception.limit, 1)


class ByTheWords:
    """The answers goal by goal, as the points tell them."""

    def __init__(self, charter, trusted, limit):
        self.charter = charter
        self.trusted = trusted
        self.limit = limit

    def reached(self, goal, charter=None, trusted=None):
        charter = self.charter if charter is None else charter
        trusted = self.trusted if trusted is None else trusted
        return can_come(charter, goal, trusted=trusted, limit=self.limit) is not None

    def who_can(self, right):
        return [name for name in self.charter.founder_names if self.reached([(name, (right,), ())])]

    def together(self):
        rights = self.charter.rights
        return [(rights[one], rights[other]) for one in range(len(rights)) for other in range(one + 1, len(rights))
                if self.reached([(None, (rights[one], rights[other]), ())])]

    def types(self):
        rights = self.charter.rights
        places = [part for many in range(len(rights) + 1) for part in sorted(itertools.combinations(range(len(rights)), many))]
        types = [tuple(rights[at] for at in part) for part in places]
        return [some for some in types if self.reached([(None, some, tuple(r for r in rights if r not in some))])]

    def needed_rules(self, goal):
        if not self.reached(goal):
            return None
        return [rule for rule in self.charter.rule_names if not self.reached(goal, self.charter.without_rules([rule]))]

    def least(self, names, most, reached):
        found = []
        for many in range(most + 1):
            for part in sorted(itertools.combinations(range(len(names)), many)):
                if not any(set(cut) <= set(part) for cut in found) and not reached([names[at] for at in part]):
                    found.append(part)
        return [tuple(names[at] for at in part) for part in found]

    def cuts(self, goal, most):
        return self.least(self.charter.rule_names, most, lambda part: self.reached(goal, self.charter.without_rules(part)))

    def trust_cuts(self, goal, most):
        names = [name for name in self.charter.founder_names if name not in self.trusted]
        return self.least(names, most, lambda part: self.reached(goal, trusted=list(self.trusted) + part))

    def idle_rules(self):
        return [rule[1] for rule in self.charter.rules if rule[0] != "join" and not self.reached(self.use(*rule), trusted=[])]

    def use(self, kind, _, needs, *others):
        if kind in ("claim", "drop"):
            lacks, right = others
            return [(None, needs, (*lacks, right))] if kind == "claim" else [(None, (*needs, right), lacks)]
        wants, lacks, right = others
        actor = (None, (*needs, right) if kind == "pass" else needs, ())
        return [actor, (None, (*wants, right), lacks) if kind == "take" else (None, wants, (*lacks, right))]


class Drawn(unittest.TestCase):
    def assert_same(self, ask, by_words):
        answer = told(ask)
        self.assertEqual(answer, told(by_words))
        return answer

    def test_drawn_charters(self):
        rows = []
        for seed in range(200):
            rng = random.Random(seed)
            charter = draw_charter(rng, rights=(1, 3), rules=(1, 6), founders=4)
            trusted = draw_trusted(rng, charter)
            # With a small limit, what is not asked must not raise either.
            limit = rng.choice([2000, 2000, 1, 2, 4])
            words = ByTheWords(charter, trusted, limit)
            more = {"trusted": trusted, "limit": limit}
            _, office = walk(rng, charter, trusted, 6)
            goal = goal_met_by(rng, office) or draw_goal(rng, charter)
            if seed % 3 == 0:
                goal = draw_goal(rng, charter)
            most = rng.randint(1, 3)
            right = rng.choice(charter.rights)
            rows.append([self.assert_same(lambda: who_can(charter, right, **more), lambda: words.who_can(right)),
                         self.assert_same(lambda: together(charter, **more), words.together),
                         self.assert_same(lambda: reachable_types(charter, **more), words.types),
                         self.assert_same(lambda: needed_rules(charter, goal, **more), lambda: words.needed_rules(goal)),
                         self.assert_same(lambda: cuts(charter, goal, most=most, **more), lambda: words.cuts(goal, most)),
                         self.assert_same(lambda: trust_cuts(charter, goal, most=most, **more), lambda: words.trust_cuts(goal, most)),
                         self.assert_same(lambda: idle_rules(charter, limit=limit), words.idle_rules)])
        for answers in zip(*rows):
            self.assertGreater(len([answer for answer in answers if isinstance(answer, str)]), 3)
            self.assertGreater(len([answer for answer in answers if isinstance(answer, list) and answer not in ([], [()])]), 10)
            self.assertGreater(len([answer for answer in answers if answer in ([], [()], None)]), 10)


class Arguments(unittest.TestCase):
    def test_what_is_handed_in_stays_as_it_was(self):
        goal = [(None, ["key"], ["boss"])]
        trusted = ["ann"]
        before = copy.deepcopy((goal, trusted, vars(DESK)))
        who_can(DESK, "key", trusted=trusted)
        together(DESK, trusted=trusted)
        reachable_types(DESK, trusted=trusted)
        needed_rules(DESK, goal, trusted=trusted)
        cuts(DESK, goal, most=3, trusted=trusted)
        trust_cuts(DESK, goal, most=3, trusted=trusted)
        idle_rules(DESK)
        self.assertEqual((goal, trusted, vars(DESK)), before)

    def test_the_example(self):
        self.assertEqual((who_can(OFFICE, "sign"), together(OFFICE)), (["bob"], [("sign", "pay")]))


if __name__ == "__main__":
    unittest.main()
