"""Points 27 to 29: drawn charters and goals, held against a search forwards with a bounded number of people."""

import random
import unittest

from helpers import RIGHTS, draw_charter, draw_goal, draw_trusted, forwards, goal_met_by, walk
from whoevermay.charters import Charter
from whoevermay.organisations import run
from whoevermay.reach import can_come, fewest_steps

MOST_JOINERS = 3


class Drawn(unittest.TestCase):
    def ask(self, charter, goal, trusted):
        """The answer of the search, behind a check of its plan, and how many join in the plan."""
        plan = can_come(charter, goal, trusted=trusted)
        steps = fewest_steps(charter, goal, trusted=trusted)
        if plan is None:
            self.assertIsNone(steps)
            return None, 0
        kinds = [charter.rule(action[0])[0] for action in plan.actions]
        self.assertTrue(run(charter, plan.actions, trusted=trusted).meets(goal))
        self.assertEqual((plan.steps, len(kinds) - kinds.count("join")), (steps, steps))
        self.assertFalse([action for action in plan.actions if action[1] in trusted])
        return steps, kinds.count("join")

    def compare(self, charter, goal, trusted):
        """The fewest steps, if both searches could be compared."""
        steps, joins = self.ask(charter, goal, trusted)
        bound = max(min(joins, MOST_JOINERS), 3 - len(charter.founders))
        slow = forwards(charter, goal, trusted, bound, most=5000)
        if slow == -1:
            return "too long"
        if joins <= bound:
            self.assertEqual(steps, slow)
            return steps
        # With fewer people it can only be harder.
        self.assertTrue(slow is None or slow >= steps)
        return "more people"

    def test_drawn_goals(self):
        found = []
        for seed in range(500):
            rng = random.Random(seed)
            charter = draw_charter(rng, rights=(1, 3), rules=(1, 5))
            found.append(self.compare(charter, draw_goal(rng, charter), draw_trusted(rng, charter)))
        self.assertGreater(found.count(None), 100)
        self.assertGreater(len([steps for steps in found if steps in (1, 2, 3, 4, 5)]), 25)

    def test_drawn_goals_that_are_reached(self):
        found = []
        for seed in range(500):
            rng = random.Random(seed)
            charter = draw_charter(rng, rights=(2, 4), rules=(3, 7))
            trusted = draw_trusted(rng, charter)
            actions, office = walk(rng, charter, trusted, rng.randint(4, 12))
            goal = goal_met_by(rng, office)
            if goal is not None:
                found.append(self.compare(charter, goal, trusted))
                self.assertIsNotNone(found[-1])
                self.assertLessEqual(self.ask(charter, goal, trusted)[0], len(actions))
        self.assertGreater(len([steps for steps in found if steps in (2, 3, 4, 5)]), 30)

    def test_each_kind_of_rule_with_every_condition_alone(self):
        """One rule and two founders, one of whom may be trusted: all rules of two rights and all demands of one of them."""
        rules = [("join", "r", held) for held in ([], ["a"])]
        for asked, lacks in (([], []), (["b"], []), ([], ["b"])):
            rules += [("claim", "r", asked, lacks, "a"), ("drop", "r", asked, lacks, "a")]
            for needs in ([], ["a"], ["b"], ["a", "b"]):
                rules += [("give", "r", needs, asked, lacks, "a"), ("take", "r", needs, asked, lacks, "a")]
            rules += [("pass", "r", needs, asked, lacks, "a") for needs in ([], ["b"])]
        reached = []
        for rule in rules:
            sole = ["a"] if rule[0] == "pass" else []
            for held in ([], ["a"], ["b"], ["a", "b"]):
                other = ["b"] if "a" in held and sole else ["a", "b"]
                charter = Charter(rights=["a", "b"], sole=sole, founders=[("ann", held), ("bob", other)], rules=[rule])
                for trusted in ([], ["ann"], ["bob"]):
                    for goal in ([("ann", ["a"], [])], [("ann", [], ["a"])], [(None, ["a", "b"], []), ("bob", [], ["a"])]):
                        steps = self.compare(charter, goal, trusted)
                        reached.append((rule[0], steps))
        for kind in ("claim", "drop", "give", "take", "pass"):
            self.assertIn((kind, 1), reached)
            self.assertIn((kind, None), reached)

    def test_a_ladder_of_many_steps(self):
        """Each right is claimed with the one ahead of it, which then must be laid down again."""
        rules = []
        for lower, higher in zip(RIGHTS, RIGHTS[1:]):
            rules.append(("claim", f"c{higher}", [lower], [], higher))
            rules.append(("drop", f"d{lower}", [higher], [], lower))
        charter = Charter(rights=RIGHTS, founders=[("ann", ["a"])], rules=rules)
        self.assertEqual(self.compare(charter, [("ann", ["f"], ["a", "b", "c", "d", "e"])], []), 10)
        self.assertEqual(self.compare(charter, [("ann", ["f"], [])], []), 5)
        self.assertEqual(self.compare(charter, [("ann", ["a", "f"], [])], []), 5)
        self.assertEqual(self.compare(charter, [("ann", ["a", "f"], ["b"])], []), 6)
        self.assertIsNone(self.compare(charter, [("ann", [], RIGHTS)], []))


if __name__ == "__main__":
    unittest.main()
