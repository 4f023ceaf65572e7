"""Points 41, 48, 50, 51 and 52: how many can hold a right at once, needed founders, and the steps of several goals."""

import copy
import itertools
import random
import unittest

from helpers import draw_charter, draw_goal, draw_trusted, goal_met_by, walk
from whoevermay.charters import Charter
from whoevermay.crowds import least_steps, most_at_once, needed_founders
from whoevermay.errors import InvalidGoal, InvalidQuestion, TooMany, UnknownName, WhoevermayError
from whoevermay.questions import cuts, needed_rules, trust_cuts, who_can
from whoevermay.reach import can_come, fewest_steps

HAND = Charter(rights=["desk", "seal"], sole=["seal"], founders=[("ann", ["seal"])],
               rules=[("join", "hire", ("desk",)), ("pass", "hand", (), ("desk",), (), "seal")])

# Ann can give the key to two others at the most, as nobody joins.
CLOSED = Charter(rights=["boss", "key"], founders=[("ann", ["boss"]), ("bob", []), ("cid", [])],
                 rules=[("give", "lend", ["boss"], [], ["boss"], "key")])


class MostAtOnce(unittest.TestCase):
    def assert_most(self, answers, charter, right, trusted=()):
        """The answers with `most` of 1, 2, 3; without it, it is 3."""
        self.assertEqual([most_at_once(charter, right, most=most, trusted=trusted) for most in (1, 2, 3)], answers)
        self.assertEqual(most_at_once(charter, right, trusted=trusted), answers[2])
        self.assertIs(type(most_at_once(charter, right, trusted=trusted)), int)

    def test_nobody(self):
        self.assert_most([0, 0, 0], Charter(rights=["a"]), "a")
        self.assert_most([0, 0, 0], Charter(rights=["a"], founders=[("ann", []), ("bob", [])]), "a")
        self.assert_most([0, 0, 0], Charter(rights=["a"], sole=["a"], founders=[("ann", [])], rules=[("pass", "p", [], [], [], "a")]), "a")
        self.assert_most([0, 0, 0], Charter(rights=["a", "b"], rules=[("join", "j", ["b"])]), "a")

    def test_one(self):
        self.assert_most([1, 1, 1], HAND, "seal")
        self.assert_most([1, 1, 1], CLOSED, "boss")
        self.assert_most([1, 1, 1], Charter(rights=["a"], founders=[("ann", []), ("bob", ["a"])]), "a")

    def test_two(self):
        self.assert_most([1, 2, 2], CLOSED, "key")
        self.assert_most([1, 2, 2], Charter(rights=["a"], founders=[("ann", ["a"]), ("bob", ["a"]), ("cid", [])]), "a")

    def test_three_and_more(self):
        self.assert_most([1, 2, 3], HAND, "desk")
        self.assert_most([1, 2, 3], Charter(rights=["a"], founders=[(name, ["a"]) for name in ("ann", "bob", "cid", "dan")]), "a")
        self.assert_most([1, 2, 3], CLOSED.with_rule(("join", "enter", [])), "key")
        self.assert_most([1, 2, 3], CLOSED.with_rule(("claim", "grab", ["boss"], [], "key")), "key")

    def test_trusted_founders(self):
        self.assert_most([0, 0, 0], CLOSED, "key", ["ann"])
        self.assert_most([1, 2, 2], CLOSED, "key", ["bob", "cid"])
        self.assert_most([1, 1, 1], CLOSED, "boss", ["ann"])
        claim = CLOSED.with_rule(("claim", "grab", [], ["boss"], "key"))
        self.assert_most([1, 2, 2], claim, "key", ["ann"])
        self.assert_most([1, 1, 1], claim, "key", ["ann", "cid"])

    def test_at_once_is_more_than_one_after_another(self):
        # The key goes round: each can come to it, but only one at a time.
        rules = [("pass", "on", [], [], [], "key")]
        charter = Charter(rights=["key"], sole=["key"], founders=[("ann", ["key"]), ("bob", []), ("cid", [])], rules=rules)
        self.assertEqual(who_can(charter, "key"), ["ann", "bob", "cid"])
        self.assert_most([1, 1, 1], charter, "key")

    def test_the_example(self):
        self.assertEqual((most_at_once(HAND, "seal"), most_at_once(HAND, "desk")), (1, 3))

    def test_other_greatest_numbers(self):
        for most in (0, 4, -1, 5, 100, -3):
            for right in ("seal", "desk"):
                with self.assertRaises(InvalidQuestion):
                    most_at_once(HAND, right, most=most)

    def test_too_many(self):
        # One can hold the key at the start, which takes one marking; for two somebody has to give it.
        charter = Charter(rights=["key"], founders=[("ann", ["key"]), ("bob", [])], rules=[("give", "g", ["key"], [], [], "key")])
        self.assertEqual(most_at_once(charter, "key", most=1, limit=1), 1)
        for most in (2, 3):
            with self.assertRaises(TooMany) as caught:
                most_at_once(charter, "key", most=most, limit=1)
            self.assertEqual(caught.exception.limit, 1)
        # What is never reached by one is not asked for two.
        self.assertEqual(most_at_once(charter.with_founder("ann", []), "key", limit=1), 0)

    def test_the_first_number_that_raises_too_many(self):
        raised = []
        for seed in range(150):
            rng = random.Random(seed)
            charter = draw_charter(rng, rights=(1, 3), rules=(1, 6), founders=4)
            right = rng.choice(charter.rights)
            trusted = draw_trusted(rng, charter)
            most = rng.randint(1, 3)
            for limit in (1, 2, 3, 2000):
                try:
                    expected = most
                    for many in range(1, most + 1):
                        if can_come(charter, [(None, (right,), ())] * many, trusted=trusted, limit=limit) is None:
                            expected = many - 1
                            break
                    self.assertEqual(most_at_once(charter, right, most=most, trusted=trusted, limit=limit), expected)
                except TooMany:
                    raised.append(limit)
                    with self.assertRaises(TooMany) as caught:
                        most_at_once(charter, right, most=most, trusted=trusted, limit=limit)
                    self.assertEqual(caught.exception.limit, limit)
        self.assertGreater(len(raised), 20)
        self.assertNotIn(2000, raised)


class NeededFounders(unittest.TestCase):
    def test_none(self):
        self.assertEqual(needed_founders(HAND, [(None, ["desk"], [])]), [])
        self.assertEqual(needed_founders(CLOSED, [(None, [], [])]), [])
        twins = CLOSED.with_founder("bob", ["boss"])
        self.assertEqual(needed_founders(twins, [(None, ["boss"], [])]), [])

    def test_some(self):
        self.assertEqual(needed_founders(CLOSED, [(None, ["boss"], [])]), ["ann"])
        self.assertEqual(needed_founders(CLOSED, [(None, ["key"], [])]), ["ann"])
        self.assertEqual(needed_founders(HAND, [(None, ["seal", "desk"], [])]), ["ann"])

    def test_all(self):
        self.assertEqual(needed_founders(CLOSED, [(None, ["key"], []), (None, ["key"], [])]), ["ann", "bob", "cid"])
        self.assertEqual(needed_founders(CLOSED, [(None, [], [])] * 3), ["ann", "bob", "cid"])

    def test_founders_in_their_order(self):
        charter = Charter(rights=["a", "b"], founders=[("zoe", ["a"]), ("bob", []), ("abe", ["b"]), ("cid", [])],
                          rules=[("give", "g", ["a"], ["b"], [], "a")])
        self.assertEqual(needed_founders(charter, [(None, ["a", "b"], [])]), ["zoe", "abe"])
        self.assertEqual(needed_founders(charter, [("cid", [], []), (None, ["a", "b"], [])]), ["zoe", "abe", "cid"])

    def test_a_founder_whom_a_demand_names(self):
        self.assertEqual(needed_founders(CLOSED, [("cid", [], ["key"])]), ["cid"])
        self.assertEqual(needed_founders(CLOSED, [("cid", ["key"], []), ("bob", [], [])]), ["ann", "bob", "cid"])
        self.assertEqual(needed_founders(CLOSED, [(None, [], []), ("bob", [], [])]), ["bob"])

    def test_a_named_founder_is_not_asked_for(self):
        # Without ann the goal would be none of the charter, and a search would raise UnknownName.
        self.assertEqual(needed_founders(CLOSED, [("ann", ["boss"], [])], limit=1), ["ann"])

    def test_trusted_founders(self):
        goal = [(None, ["key"], [])]
        # Two can lend the key; when one of them is trusted, the other one is needed.
        twins = CLOSED.with_founder("bob", ["boss"])
        self.assertEqual(needed_founders(twins, goal), ["cid"])
        self.assertEqual(needed_founders(twins, goal, trusted=["ann"]), ["bob", "cid"])
        self.assertEqual(needed_founders(twins, goal, trusted=("bob",)), ["ann", "cid"])
        self.assertIsNone(needed_founders(twins, goal, trusted=["ann", "bob"]))

    def test_a_founder_who_is_left_out_is_left_out_of_trusted(self):
        # Otherwise the search without bob would raise UnknownName.
        charter = CLOSED.with_founder("dan", ["boss"])
        for trusted in (["bob"], ["bob", "cid", "bob"], ["cid", "dan"]):
            needed = needed_founders(charter, [(None, ["key"], [])], trusted=trusted)
            self.assertEqual(needed, ["ann"] if "dan" in trusted else [])
        # Nobody is trusted any more without ann, and then bob's slot may be anybody's.
        self.assertEqual(needed_founders(CLOSED, [(None, ["boss"], [])], trusted=["ann"]), ["ann"])

    def test_a_goal_that_is_never_reached(self):
        self.assertIsNone(needed_founders(CLOSED, [(None, ["boss", "key"], [])]))
        self.assertIsNone(needed_founders(CLOSED, [("ann", ["key"], [])]))
        self.assertIsNone(needed_founders(CLOSED, [(None, ["key"], [])], trusted=["ann"]))
        self.assertIsNone(needed_founders(Charter(rights=["a"]), [(None, [], [])]))

    def test_a_sole_right_that_is_gone_with_its_holder(self):
        self.assertEqual(needed_founders(HAND, [(None, ["seal"], [])]), ["ann"])
        charter = Charter(rights=["s", "a"], sole=["s"], founders=[("ann", ["s", "a"]), ("bob", [])],
                          rules=[("give", "g", ["s"], [], [], "a")])
        self.assertEqual(needed_founders(charter, [(None, ["a"], ["s"])]), ["ann", "bob"])

    def test_errors(self):
        with self.assertRaises(UnknownName) as caught:
            needed_founders(CLOSED, [("zoe", ["nil"], [])], trusted=["yan"], limit=1)
        self.assertEqual(caught.exception.name, "zoe")
        with self.assertRaises(UnknownName) as caught:
            needed_founders(CLOSED, [("ann", ["nil"], [])], trusted=["yan"], limit=1)
        self.assertEqual(caught.exception.name, "nil")
        with self.assertRaises(InvalidGoal):
            needed_founders(CLOSED, [], trusted=["yan"], limit=1)
        with self.assertRaises(UnknownName) as caught:
            needed_founders(CLOSED, [("bob", ["key"], [])], trusted=["ann", "yan", "xia"], limit=1)
        self.assertEqual(caught.exception.name, "yan")
        with self.assertRaises(TooMany) as caught:
            needed_founders(CLOSED, [("bob", ["key"], [])], limit=1)
        self.assertEqual(caught.exception.limit, 1)

    def test_too_many_without_a_founder(self):
        # With ann one marking is enough; without her somebody must come to the right.
        charter = Charter(rights=["a", "b"], founders=[("ann", ["b"]), ("bob", ["a"])], rules=[("claim", "c", ["a"], [], "b")])
        self.assertEqual(fewest_steps(charter, [(None, ["b"], [])], limit=1), 0)
        with self.assertRaises(TooMany):
            needed_founders(charter, [(None, ["b"], [])], limit=1)
        self.assertEqual(needed_founders(charter, [(None, ["b"], [])], limit=2), [])

    def test_drawn_charters(self):
        found = []
        for seed in range(250):
            rng = random.Random(seed)
            charter = draw_charter(rng, rights=(1, 3), rules=(1, 6), founders=4)
            trusted = draw_trusted(rng, charter)
            _, office = walk(rng, charter, trusted, 6)
            goal = goal_met_by(rng, office) or draw_goal(rng, charter)
            found.append(needed_founders(charter, goal, trusted=trusted))
            self.assertEqual(found[-1], self.by_words(charter, goal, trusted))
        self.assertGreater(found.count(None), 5)
        for many in range(4):
            self.assertGreater(len([names for names in found if names is not None and len(names) == many]), 5)

    def by_words(self, charter, goal, trusted):
        if can_come(charter, goal, trusted=trusted) is None:
            return None
        needed = []
        for name, _ in charter.founders:
            rest = Charter(rights=charter.rights, sole=charter.sole, rules=charter.rules,
                           founders=[row for row in charter.founders if row[0] != name])
            others = [one for one in trusted if one != name]
            if name in [demand[0] for demand in goal] or can_come(rest, goal, trusted=others) is None:
                needed.append(name)
        return needed


class LeastSteps(unittest.TestCase):
    KEY = [(None, ["key"], [])]
    NEVER = [("ann", ["key"], [])]

    def test_no_goal(self):
        self.assertEqual(least_steps(CLOSED, []), [])
        self.assertEqual(least_steps(CLOSED, [], trusted=["ann"], limit=1), [])

    def test_one_and_several(self):
        self.assertEqual(least_steps(CLOSED, [self.KEY]), [1])
        self.assertEqual(least_steps(CLOSED, [[("ann", ["boss"], [])]]), [0])
        self.assertEqual(least_steps(CLOSED, [self.NEVER]), [None])
        goals = [self.KEY * 2, self.NEVER, self.KEY, [("ann", [], [])], self.KEY * 3, self.KEY]
        self.assertEqual(least_steps(CLOSED, goals), [2, None, 1, 0, None, 1])

    def test_trusted_founders(self):
        self.assertEqual(least_steps(CLOSED, [self.KEY, [("ann", ["boss"], [])]], trusted=["ann"]), [None, 0])
        self.assertEqual(least_steps(CLOSED, [self.KEY], trusted=["bob"]), [1])

    def test_the_errors_of_all_goals_come_first(self):
        faults = [([("zoe", [], [])], "zoe"), ([("ann", ["nil"], [])], "nil"), ([(None, [], ["none"])], "none")]
        for (goal, name), before in itertools.product(faults, ([], [self.KEY], [self.KEY, self.NEVER])):
            for behind in ([], [self.KEY], [[]], [faults[0][0]]):
                with self.assertRaises(UnknownName) as caught:
                    least_steps(CLOSED, [*before, goal, *behind], trusted=["yan"], limit=1)
                self.assertEqual(caught.exception.name, name)
        for before, behind in itertools.product(([], [self.KEY]), ([], [self.KEY], [faults[0][0]])):
            for goal in ([], self.KEY * 4, self.NEVER * 2, [(None, ["key"], ["key"])]):
                with self.assertRaises(InvalidGoal):
                    least_steps(CLOSED, [*before, goal, *behind], trusted=["yan"], limit=1)

    def test_then_those_of_the_trusted_founders(self):
        for goals in ([], [self.KEY], [self.KEY, self.NEVER]):
            with self.assertRaises(UnknownName) as caught:
                least_steps(CLOSED, goals, trusted=["ann", "yan", "xia"], limit=1)
            self.assertEqual(caught.exception.name, "yan")

    def test_then_too_many(self):
        self.assertEqual(least_steps(CLOSED, [[("ann", [], [])], [("bob", ["boss"], [])]], limit=1), [0, None])
        for goals in ([self.KEY], [[("ann", [], [])], self.KEY], [self.KEY, self.NEVER]):
            with self.assertRaises(TooMany) as caught:
                least_steps(CLOSED, goals, limit=1)
            self.assertEqual(caught.exception.limit, 1)

    def test_drawn_charters(self):
        for seed in range(60):
            rng = random.Random(seed)
            charter = draw_charter(rng)
            trusted = draw_trusted(rng, charter)
            goals = [draw_goal(rng, charter) for _ in range(4)]
            plans = [can_come(charter, goal, trusted=trusted) for goal in goals]
            self.assertEqual(least_steps(charter, goals, trusted=trusted), [plan and plan.steps for plan in plans])


class Errors(unittest.TestCase):
    """Point 52: the order of the errors of all questions."""

    GOAL = [(None, ["key"], [])]

    def raised(self, function, *arguments, **more):
        with self.assertRaises(WhoevermayError) as caught:
            function(CLOSED, *arguments, **more)
        self.assertIsInstance(caught.exception, ValueError)
        error = caught.exception
        return (type(error), *vars(error).values())

    def test_most_at_once(self):
        for most, trusted in itertools.product((0, 4, -1, 3), (["zoe"], [])):
            for right in ("nil", "ann", ""):
                self.assertEqual(self.raised(most_at_once, right, most=most, trusted=trusted, limit=1), (UnknownName, right))
        for most, trusted in itertools.product((0, 4, -1), (["zoe"], [])):
            self.assertEqual(self.raised(most_at_once, "key", most=most, trusted=trusted, limit=1), (InvalidQuestion,))
        for most in (1, 2, 3):
            self.assertEqual(self.raised(most_at_once, "key", most=most, trusted=["bob", "zoe", "yan"], limit=1), (UnknownName, "zoe"))
            self.assertEqual(self.raised(most_at_once, "key", most=most, limit=1), (TooMany, 1))

    def test_who_can(self):
        for trusted in (["zoe"], []):
            self.assertEqual(self.raised(who_can, "nil", trusted=trusted, limit=1), (UnknownName, "nil"))
        self.assertEqual(self.raised(who_can, "key", trusted=["bob", "zoe", "yan"], limit=1), (UnknownName, "zoe"))
        self.assertEqual(self.raised(who_can, "key", limit=1), (TooMany, 1))

    def test_questions_with_a_goal(self):
        for function in (needed_founders, needed_rules, cuts, trust_cuts):
            mosts = (0, 4, -1, 2) if function in (cuts, trust_cuts) else (None,)
            for most, trusted in itertools.product(mosts, (["zoe"], [])):
                more = {"trusted": trusted, "limit": 1} | ({} if most is None else {"most": most})
                self.assertEqual(self.raised(function, [("dan", ["nil"], [])], **more), (UnknownName, "dan"))
                self.assertEqual(self.raised(function, [("ann", ["nil"], []), ("dan", [], [])], **more), (UnknownName, "nil"))
                for goal in ([], self.GOAL * 4, [("ann", [], [])] * 2, [(None, ["key", "key"], [])]):
                    self.assertEqual(self.raised(function, goal, **more), (InvalidGoal,))
                if most in (0, 4, -1):
                    self.assertEqual(self.raised(function, self.GOAL, **more), (InvalidQuestion,))
                elif trusted:
                    self.assertEqual(self.raised(function, self.GOAL, **more), (UnknownName, "zoe"))
                else:
                    self.assertEqual(self.raised(function, self.GOAL, **more), (TooMany, 1))


class Arguments(unittest.TestCase):
    def test_what_is_handed_in_stays_as_it_was(self):
        goal = [(None, ["key"], ["boss"]), ("bob", [], [])]
        goals = [goal, [("ann", ["boss"], [])]]
        trusted = ["bob", "cid"]
        before = copy.deepcopy((goals, trusted, vars(CLOSED)))
        most_at_once(CLOSED, "key", trusted=trusted)
        needed_founders(CLOSED, goal, trusted=trusted)
        least_steps(CLOSED, goals, trusted=trusted)
        self.assertEqual((goals, trusted, vars(CLOSED)), before)

    def test_tuples_are_taken_as_lists_are(self):
        goal = ((None, ("key",), ("boss",)), ("bob", (), ()))
        self.assertEqual(needed_founders(CLOSED, goal, trusted=("cid",)), needed_founders(CLOSED, list(goal), trusted=["cid"]))
        self.assertEqual(least_steps(CLOSED, [goal], trusted=("cid",)), [1])


if __name__ == "__main__":
    unittest.main()
