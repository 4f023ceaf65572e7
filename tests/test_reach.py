"""Points 27 to 30, 22 and 40: plans, fewest steps, goals that are never reached, and errors."""

import copy
import random
import unittest

from helpers import draw_charter, draw_founders, draw_goal, draw_rule, draw_trusted, goal_met_by, walk
from whoevermay.charters import Charter
from whoevermay.errors import InvalidGoal, TooMany, UnknownName
from whoevermay.organisations import run
from whoevermay.plans import check_plan
from whoevermay.reach import Plan, can_come, check_closed, closed_list, fewest_steps


def any_order(rng, charter):
    """The same charter, with its founders, its rules and the rights of their lists in another order."""
    founders = [(name, mixed(rng, held)) for name, held in charter.founders]
    rules = [tuple([mixed(rng, part) if isinstance(part, tuple) else part for part in rule]) for rule in charter.rules]
    return Charter(rights=charter.rights, sole=mixed(rng, charter.sole), founders=mixed(rng, founders), rules=mixed(rng, rules))


def mixed(rng, words):
    return rng.sample(list(words), len(words))


class Goals(unittest.TestCase):
    def assert_fewest(self, steps, charter, *goal, trusted=()):
        """The goal is reached with so many steps, whatever the order of its demands; None: never."""
        for demands in (list(goal), goal[::-1]):
            self.assertEqual(fewest_steps(charter, demands, trusted=trusted), steps)
            plan = can_come(charter, demands, trusted=trusted)
            if steps is None:
                self.assertIsNone(plan)
                continue
            self.assertIsInstance(plan, Plan)
            self.assert_leads(charter, demands, trusted, plan)
            self.assertEqual(plan.steps, steps)

    def assert_leads(self, charter, goal, trusted, plan):
        """The actions of the plan can be done, by nobody who is trusted, and lead to the goal."""
        self.assertIsInstance(plan.actions, list)
        self.assertTrue(all(isinstance(action, tuple) and len(action) == 3 for action in plan.actions))
        kinds = [charter.rule(action[0])[0] for action in plan.actions]
        self.assertEqual(len([kind for kind in kinds if kind != "join"]), plan.steps)
        self.assertTrue(run(charter, plan.actions, trusted=trusted).meets(goal))
        self.assertFalse([action for action in plan.actions if action[1] in trusted])

    def test_met_at_the_start(self):
        charter = Charter(rights=["a", "b"], founders=[("ann", ["a"]), ("bob", ["a", "b"])], rules=[("drop", "d", [], [], "a")])
        for goal in [[("ann", ["a"], ["b"])], [(None, ["b", "a"], [])], [(None, ["a"], []), (None, ["a"], [])],
                     [("bob", [], []), ("ann", [], ["b"])]]:
            self.assert_fewest(0, charter, *goal)
            self.assert_fewest(0, charter, *goal, trusted=["ann", "bob"])
            self.assertEqual(can_come(charter, goal).actions, [])

    def test_met_when_people_have_joined(self):
        charter = Charter(rights=["a", "b"], founders=[("ann", [])], rules=[("join", "j", ["a"]), ("join", "k", [])])
        self.assert_fewest(0, charter, (None, ["a"], []), (None, ["a"], ["b"]), (None, ["a"], []))
        self.assert_fewest(0, charter, (None, ["a"], []), (None, [], ["a"]), (None, [], ["a"]))
        self.assert_fewest(0, charter, ("ann", [], ["a"]), (None, [], []), (None, [], []))
        self.assert_fewest(None, charter, ("ann", ["a"], []))
        self.assert_fewest(None, charter, (None, ["b"], []))
        self.assert_fewest(None, charter, (None, [], ["a"]), (None, ["a", "b"], []))

    def test_without_founders(self):
        charter = Charter(rights=["a"], rules=[("claim", "c", [], [], "a")])
        self.assert_fewest(None, charter, (None, [], []))
        self.assert_fewest(None, charter, (None, ["a"], []))
        self.assert_fewest(1, charter.with_rule(("join", "j", [])), (None, ["a"], []), (None, [], ["a"]))
        self.assert_fewest(3, charter.with_rule(("join", "j", [])), *[(None, ["a"], [])] * 3)

    def test_more_demands_than_people(self):
        charter = Charter(rights=["a"], founders=[("ann", ["a"]), ("bob", ["a"])], rules=[("claim", "c", [], [], "a")])
        self.assert_fewest(0, charter, (None, ["a"], []), (None, ["a"], []))
        self.assert_fewest(None, charter, (None, ["a"], []), (None, ["a"], []), (None, ["a"], []))
        self.assert_fewest(None, charter, (None, [], []), (None, [], []), (None, [], []))

    def test_claims(self):
        charter = Charter(rights=["a", "b", "c"], founders=[("ann", ["a"]), ("bob", [])],
                          rules=[("claim", "cb", ["a"], ["c"], "b"), ("claim", "cc", ["b"], [], "c")])
        self.assert_fewest(1, charter, ("ann", ["b"], []))
        self.assert_fewest(2, charter, (None, ["c"], []))
        self.assert_fewest(None, charter, ("bob", ["b"], []))
        self.assert_fewest(None, charter, (None, ["c"], ["a"]))
        self.assert_fewest(None, charter, ("ann", ["c"], ["b"]))
        self.assert_fewest(None, charter, ("ann", ["b"], []), trusted=["ann"])
        self.assert_fewest(1, charter, ("ann", ["b"], []), trusted=["bob"])

    def test_drops(self):
        charter = Charter(rights=["a", "b"], sole=["b"], founders=[("ann", ["a", "b"]), ("bob", ["a"])],
                          rules=[("drop", "da", ["b"], [], "a"), ("drop", "db", [], ["a"], "b")])
        self.assert_fewest(1, charter, ("ann", ["b"], ["a"]))
        self.assert_fewest(2, charter, ("ann", [], ["a", "b"]))
        self.assert_fewest(2, charter, (None, [], ["b", "a"]))
        self.assert_fewest(None, charter, ("bob", [], ["a"]))
        self.assert_fewest(None, charter, ("ann", ["a"], ["b"]))
        self.assert_fewest(None, charter, ("ann", [], ["a"]), trusted=["ann"])

    def test_gives(self):
        charter = Charter(rights=["a", "b", "c"], founders=[("ann", ["a"]), ("bob", ["b"]), ("cid", ["c"])],
                          rules=[("give", "g", ["a"], ["b"], ["c"], "a")])
        self.assert_fewest(1, charter, ("bob", ["a", "b"], []))
        self.assert_fewest(None, charter, ("cid", ["a"], []))
        self.assert_fewest(None, charter, ("bob", ["a"], []), trusted=["ann"])
        self.assert_fewest(1, charter, ("bob", ["a"], []), trusted=["bob"])
        self.assert_fewest(2, charter.with_rule(("join", "j", ["b"])), (None, ["a", "b"], []), (None, ["a", "b"], []))
        self.assert_fewest(None, charter, (None, ["a", "b"], []), (None, ["a", "b"], []))

    def test_the_giver_is_not_the_target(self):
        charter = Charter(rights=["a", "b"], founders=[("ann", ["a"])], rules=[("give", "g", ["a"], [], [], "b")])
        self.assert_fewest(None, charter, (None, ["b"], []))
        more = charter.with_rule(("join", "j", []))
        self.assert_fewest(1, more, (None, ["b"], []))
        self.assert_fewest(None, more, (None, ["a", "b"], []))
        self.assert_fewest(2, more.with_rule(("give", "h", ["a"], [], [], "a")).with_founder("bob", []), ("ann", ["b"], []))

    def test_takes(self):
        charter = Charter(rights=["a", "b", "c"], founders=[("ann", ["a", "c"]), ("bob", ["a", "b"]), ("cid", ["c"])],
                          rules=[("take", "t", ["a"], ["b"], ["c"], "a"), ("take", "u", ["c"], ["a"], [], "c")])
        self.assert_fewest(1, charter, ("bob", ["b"], ["a"]))
        self.assert_fewest(1, charter, ("ann", [], ["c"]))
        self.assert_fewest(None, charter, ("ann", [], ["a"]))
        self.assert_fewest(None, charter, ("cid", [], ["c"]))
        self.assert_fewest(2, charter, ("ann", [], ["c"]), ("bob", [], ["a"]))
        self.assert_fewest(None, charter, ("bob", [], ["a"]), trusted=["ann"])
        self.assert_fewest(1, charter, ("bob", [], ["a"]), trusted=["bob", "cid"])

    def test_passes(self):
        charter = Charter(rights=["a", "s"], sole=["s"], founders=[("ann", ["s"]), ("bob", []), ("cid", ["a"])],
                          rules=[("pass", "p", [], ["a"], [], "s"), ("pass", "q", ["a"], [], ["a"], "s")])
        self.assert_fewest(1, charter, ("cid", ["s"], []))
        self.assert_fewest(2, charter, ("bob", ["s"], []))
        self.assert_fewest(1, charter, ("ann", [], ["s"]))
        self.assert_fewest(2, charter, ("bob", ["s"], []), trusted=["bob"])
        self.assert_fewest(None, charter, ("bob", ["s"], []), trusted=["cid"])
        self.assert_fewest(None, charter, ("ann", [], ["s"]), trusted=["ann"])
        self.assert_fewest(None, charter, (None, ["s"], []), (None, ["s"], []))
        self.assert_fewest(None, charter, (None, ["s", "a"], []), ("ann", ["s"], []))
        self.assert_fewest(0, charter, (None, ["s"], []), (None, [], ["s"]), (None, [], ["s"]))

    def test_a_pass_that_only_gets_rid_of_the_right(self):
        charter = Charter(rights=["s", "t"], sole=["s", "t"], founders=[("ann", ["s", "t"])],
                          rules=[("join", "j", []), ("pass", "p", [], [], [], "s"), ("pass", "q", ["s"], [], [], "t")])
        self.assert_fewest(1, charter, ("ann", ["t"], ["s"]))
        self.assert_fewest(2, charter, ("ann", [], ["s", "t"]))
        self.assert_fewest(2, charter, ("ann", [], ["s", "t"]), (None, ["s"], ["t"]), (None, ["t"], []))
        self.assert_fewest(1, charter, ("ann", ["s"], ["t"]), (None, ["t"], ["s"]))
        self.assert_fewest(None, charter.without_rules(["j"]), ("ann", [], ["s"]))

    def test_a_sole_right_goes_from_hand_to_hand(self):
        charter = Charter(rights=["a", "b", "s"], sole=["s"], founders=[("ann", ["s"])],
                          rules=[("join", "j", []), ("pass", "p", [], [], [], "s"), ("claim", "c", ["s"], [], "a"),
                                 ("claim", "d", ["a"], ["s"], "b")])
        self.assert_fewest(1, charter, (None, ["a"], []))
        self.assert_fewest(3, charter, ("ann", ["a", "b"], ["s"]))
        self.assert_fewest(5, charter, *[(None, ["a"], [])] * 3)
        self.assert_fewest(4, charter, ("ann", ["a", "s", "b"], []))
        self.assert_fewest(None, charter, (None, ["b"], ["a"]))

    def test_a_sole_right_that_is_nowhere(self):
        charter = Charter(rights=["a", "s"], sole=["s"], founders=[("ann", [])],
                          rules=[("claim", "c", ["s"], [], "a"), ("pass", "p", [], [], [], "s"), ("join", "j", [])])
        self.assert_fewest(None, charter, (None, ["s"], []))
        self.assert_fewest(None, charter, (None, ["a"], []))
        self.assert_fewest(None, charter, ("ann", [], []), (None, ["a"], []))

    def test_people_who_must_join_first(self):
        charter = Charter(rights=["a", "b", "c"], founders=[("ann", ["c"])],
                          rules=[("join", "j", ["a"]), ("join", "k", ["b"]), ("give", "g", ["b", "c"], ["a"], [], "c"),
                                 ("give", "h", ["b"], ["c"], [], "b")])
        self.assert_fewest(2, charter, (None, ["a", "c"], []))
        self.assert_fewest(3, charter, (None, ["a", "b", "c"], []))
        self.assert_fewest(None, charter.without_rules(["k"]), (None, ["a", "c"], []))
        self.assert_fewest(None, charter.without_rules(["j"]), (None, ["a", "c"], []))
        self.assert_fewest(None, charter, (None, ["a", "c"], []), trusted=["ann"])

    def test_names_of_founders_are_no_names_of_those_who_join(self):
        rules = [("join", "j", []), ("give", "g", [], [], ["b"], "a")]
        for names in [["a0", "b0", "c0", "d0", "e0"], ["a", "a1", "a2", "a3", "b"], ["z9", "y", "x1", "p0", "p1"]]:
            charter = Charter(rights=["a", "b"], founders=[(name, ["b"]) for name in names], rules=rules)
            self.assert_fewest(3, charter, *[(None, ["a"], [])] * 3)

    def test_trusted_founders_are_targets_and_never_act(self):
        charter = Charter(rights=["a", "b"], founders=[("ann", ["a"]), ("bob", ["b"])],
                          rules=[("give", "g", ["a"], ["b"], [], "a"), ("give", "h", ["b"], ["a"], [], "b"),
                                 ("claim", "c", ["b"], [], "a"), ("drop", "d", [], [], "b")])
        self.assert_fewest(1, charter, ("bob", ["a"], []))
        self.assert_fewest(1, charter, ("bob", ["a"], []), trusted=["bob"])
        self.assert_fewest(1, charter, ("bob", ["a"], []), trusted=["ann"])
        self.assert_fewest(None, charter, ("bob", ["a"], []), trusted=["ann", "bob"])
        self.assert_fewest(1, charter, ("ann", ["b"], []), trusted=["ann"])
        self.assert_fewest(None, charter, ("ann", ["b"], []), trusted=["bob"])
        self.assert_fewest(None, charter, (None, [], ["b"]), ("bob", [], ["b"]), trusted=["bob"])
        self.assert_fewest(0, charter, ("bob", ["b"], []), (None, ["a"], []), trusted=["bob", "bob"])

    def test_who_must_act_is_somebody_who_is_not_trusted(self):
        charter = Charter(rights=["a", "b"], founders=[("ann", ["a"]), ("bob", [])],
                          rules=[("give", "g", ["a"], [], [], "b"), ("give", "h", ["b"], [], [], "a")])
        self.assert_fewest(None, charter, ("bob", ["b"], []), trusted=["ann"])
        more = charter.with_rule(("join", "j", ["a"]))
        self.assert_fewest(1, more, ("bob", ["b"], []), trusted=["ann"])
        self.assert_fewest(1, more, ("bob", ["b"], []), trusted=["ann", "bob"])

    def test_the_two_examples(self):
        rules = [("join", "hire", []), ("give", "teach", ["key"], [], [], "key")]
        charter = Charter(rights=["key"], founders=[("ann", ["key"])], rules=rules)
        goal = [(None, ["key"], []), ("ann", ["key"], [])]
        plan = can_come(charter, goal)
        self.assertEqual((plan.steps, check_plan(charter, goal, plan.actions)), (1, True))
        charter = Charter(rights=["key", "seal"], founders=[("ann", ["key"])], rules=[("claim", "sign", ["key"], [], "seal")])
        self.assertEqual(fewest_steps(charter, [("ann", ["seal"], [])]), 1)
        self.assertIsNone(fewest_steps(charter, [("ann", ["seal"], [])], trusted=["ann"]))

    def test_a_plan_copies_its_actions(self):
        actions = [("c", "ann", None)]
        plan = Plan(actions, 1)
        actions.append(("c", "bob", None))
        self.assertEqual((plan.actions, plan.steps), ([("c", "ann", None)], 1))


class Orders(unittest.TestCase):
    """Points 22, 28 and 30: what makes no difference, and what never hinders."""

    def answer(self, charter, goal, trusted):
        steps = fewest_steps(charter, goal, trusted=trusted)
        plan = can_come(charter, goal, trusted=trusted)
        self.assertEqual(steps, None if plan is None else plan.steps)
        self.assertEqual(closed_list(charter, goal, trusted=trusted) is None, plan is not None)
        return steps

    def test_the_order_in_which_things_are_given(self):
        found = []
        for seed in range(150):
            rng = random.Random(seed)
            charter = draw_charter(rng, rights=(2, 3), rules=(2, 6), share=0.2)
            trusted = draw_trusted(rng, charter)
            _, office = walk(rng, charter, trusted, 6)
            goal = goal_met_by(rng, office) if seed % 2 else None
            goal = goal or draw_goal(rng, charter)
            answer = self.answer(charter, goal, trusted)
            for _ in range(3):
                demands = [(person, mixed(rng, holds), tuple(mixed(rng, lacks))) for person, holds, lacks in mixed(rng, goal)]
                self.assertEqual(self.answer(any_order(rng, charter), demands, mixed(rng, trusted)), answer)
            self.assertEqual(self.answer(charter, goal, tuple(trusted) * 2), answer)
            found.append(answer)
        self.assertGreater(len([steps for steps in found if steps]), 25)

    def test_more_founders_and_rules_never_hinder(self):
        reached = 0
        for seed in range(300):
            rng = random.Random(seed)
            charter = draw_charter(rng, rights=(2, 3), rules=(1, 5), founders=2, share=0.2)
            goal = draw_goal(rng, charter)
            trusted = draw_trusted(rng, charter)
            steps = fewest_steps(charter, goal, trusted=trusted)
            if steps is None:
                continue
            reached += 1
            held = [right for _, rights in charter.founders for right in rights]
            gone = [right for right in charter.sole if right in held]
            rights = [right for right in charter.rights if right not in gone]
            larger = charter
            for name, has in draw_founders(rng, rights, charter.sole, 3):
                if name not in larger.founder_names:
                    larger = larger.with_founder(name, has)
            for number in range(rng.randint(0, 3)):
                larger = larger.with_rule(draw_rule(rng, f"more{number}", charter.rights, list(charter.sole), 0.3))
            further = [name for name in larger.founder_names if name not in charter.founder_names]
            for more in (trusted, trusted + further, []):
                fewer = fewest_steps(larger, goal, trusted=more)
                self.assertIsNotNone(fewer)
                self.assertLessEqual(fewer, steps)
        self.assertGreater(reached, 60)


class Errors(unittest.TestCase):
    charter = Charter(rights=["a", "b", "c"], founders=[("ann", []), ("bob", [])],
                      rules=[("claim", "ca", [], [], "a"), ("claim", "cb", ["a"], [], "b"), ("claim", "cc", ["b"], ["a"], "c"),
                             ("drop", "d", ["b"], [], "a")])
    functions = [can_come, fewest_steps, closed_list,
                 lambda charter, goal, trusted=(), limit=0: check_closed(charter, goal, [], trusted=trusted)]

    def assert_raises(self, error, told, goal, **more):
        for function in self.functions:
            with self.assertRaises(error) as caught:
                function(self.charter, goal, **more)
            self.assertEqual(vars(caught.exception), told)

    def test_goals(self):
        for goal in [[], [(None, [], [])] * 4, [("ann", [], []), ("ann", [], [])], [(None, ["a"], ["a"])], [(None, ["a", "a"], [])]]:
            self.assert_raises(InvalidGoal, {}, goal)
        self.assert_raises(UnknownName, {"name": "zoe"}, [(None, [], []), ("zoe", ["nil"], [])])
        self.assert_raises(UnknownName, {"name": "nil"}, [(None, ["a", "nil"], ["none"])])

    def test_trusted_names(self):
        self.assert_raises(UnknownName, {"name": "zoe"}, [(None, ["c"], [])], trusted=["ann", "zoe", "yan"])
        self.assert_raises(UnknownName, {"name": "a"}, [(None, [], [])], trusted=("a",))

    def test_too_many(self):
        for function in self.functions[:3]:
            for limit in (1, 2):
                with self.assertRaises(TooMany) as caught:
                    function(self.charter, [(None, ["c"], [])], limit=limit)
                self.assertEqual(caught.exception.limit, limit)
        self.assertEqual(fewest_steps(self.charter, [(None, ["c"], [])], limit=50), 4)

    def test_several_errors_at_once(self):
        self.assert_raises(UnknownName, {"name": "nil"}, [(None, ["nil"], []), (None, ["c", "c"], [])], trusted=["zoe"], limit=1)
        self.assert_raises(InvalidGoal, {}, [(None, ["c", "c"], [])], trusted=["zoe"], limit=1)
        self.assert_raises(InvalidGoal, {}, [], trusted=["zoe"], limit=1)
        self.assert_raises(UnknownName, {"name": "zoe"}, [(None, ["c"], [])], trusted=["zoe"], limit=1)

    def test_what_is_handed_in_stays_as_it_was(self):
        goal = [("ann", ["b", "a"], ["c"]), (None, ["a"], [])]
        trusted = ["bob"]
        markings = [[(None, ("a",), ())], [["", ["b"], ["a"]], ("ann", (), ("c",))]]
        before = copy.deepcopy((goal, trusted, markings, vars(self.charter)))
        for function in self.functions[:3]:
            function(self.charter, goal, trusted=trusted)
        check_closed(self.charter, goal, markings, trusted=trusted)
        self.assertEqual((goal, trusted, markings, vars(self.charter)), before)


if __name__ == "__main__":
    unittest.main()
