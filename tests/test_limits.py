"""Point 39: the limit of the search, and the charters for which it is never too small."""

import itertools
import random
import time
import unittest

from helpers import PEOPLE, RIGHTS, draw_charter, draw_goal, draw_trusted, split_of
from whoevermay.charters import Charter
from whoevermay.errors import TooMany, WhoevermayError
from whoevermay.reach import can_come, check_closed, closed_list, fewest_steps

FUNCTIONS = (can_come, fewest_steps, closed_list)


class Limits(unittest.TestCase):
    # Each right is claimed with the one ahead of it: a goal of the last one takes five steps, each behind another marking.
    LADDER = [("claim", f"c{higher}", [lower], [], higher) for lower, higher in zip(RIGHTS, RIGHTS[1:])]
    goal = [(None, ["f"], [])]

    def test_a_limit_that_is_too_small(self):
        for founders in ([("ann", ["a"])], [("ann", [])], []):
            charter = Charter(rights=RIGHTS, founders=founders, rules=self.LADDER)
            for function, limit in itertools.product(FUNCTIONS, (1, 2, 3)):
                with self.assertRaises(TooMany) as caught:
                    function(charter, self.goal, limit=limit)
                self.assertEqual(caught.exception.limit, limit)
                self.assertIsInstance(caught.exception, WhoevermayError)

    def test_one_marking_is_within_a_limit_of_one(self):
        charter = Charter(rights=RIGHTS, founders=[("ann", ["f"])], rules=self.LADDER)
        self.assertEqual(fewest_steps(charter, self.goal, limit=1), 0)
        self.assertEqual(can_come(charter, self.goal, limit=1).actions, [])
        self.assertIsNone(closed_list(charter, self.goal, limit=1))
        teach = Charter(rights=RIGHTS, founders=[("ann", [])], rules=[("give", "g", ["f"], [], [], "f")])
        self.assertEqual(closed_list(teach, self.goal, limit=1), [((None, ("f",), ()),)])
        sole = Charter(rights=RIGHTS, sole=["f"], founders=[("ann", [])])
        self.assertEqual(closed_list(sole, self.goal, limit=1), [])

    def test_a_limit_changes_no_answer(self):
        raised = 0
        for seed in range(150):
            rng = random.Random(seed)
            charter = draw_charter(rng)
            goal = draw_goal(rng, charter)
            trusted = draw_trusted(rng, charter)
            steps = fewest_steps(charter, goal, trusted=trusted)
            for limit in (1, 2, 5, 20, 3000):
                try:
                    self.assertEqual(fewest_steps(charter, goal, trusted=trusted, limit=limit), steps)
                    plan = can_come(charter, goal, trusted=trusted, limit=limit)
                    self.assertEqual(None if plan is None else plan.steps, steps)
                    self.assertEqual(closed_list(charter, goal, trusted=trusted, limit=limit) is None, steps is not None)
                except TooMany as error:
                    self.assertEqual(error.limit, limit)
                    self.assertLess(limit, 3000)
                    raised += 1
        self.assertGreater(raised, 60)

    def test_a_limit_of_2000_is_too_small_for_some_charter(self):
        # Nobody holds anything, and each right can be had of who holds one of the next two.
        rules = [("give", f"g{at}x{step}", [RIGHTS[(at + step) % 6]], [], [], RIGHTS[at]) for at in range(6) for step in (1, 2)]
        charter = Charter(rights=RIGHTS, founders=[("ann", [])], rules=rules)
        goal = [(None, RIGHTS[:3], []), (None, RIGHTS[3:], [])]
        for function in FUNCTIONS:
            with self.assertRaises(TooMany) as caught:
                function(charter, goal)
            self.assertEqual(caught.exception.limit, 2000)


def small_rules(sole):
    """All rules of the rights a and b, without their names."""
    shared = [right for right in "ab" if right not in sole]
    parts = [[], ["a"], ["b"], ["a", "b"]]
    rules = [("join", held) for held in parts if set(held) <= set(shared)]
    for right, other in ("ab", "ba"):
        for asked, lacks in (([], []), ([other], []), ([], [other])):
            rules += [(kind, asked, lacks, right) for kind in ("claim", "drop") if kind == "drop" or right in shared]
            kinds = ["take", "give" if right in shared else "pass"]
            rules += [(kind, needs, asked, lacks, right) for kind in kinds for needs in parts
                      if kind != "pass" or right not in needs]
    return rules


class Promised(unittest.TestCase):
    def ask(self, charter, goal, trusted, limit):
        """Nothing here raises TooMany."""
        steps = fewest_steps(charter, goal, trusted=trusted, limit=limit)
        markings = closed_list(charter, goal, trusted=trusted, limit=limit)
        self.assertEqual(markings is None, steps is not None)
        if markings is not None:
            self.assertTrue(check_closed(charter, goal, markings, trusted=trusted))
        return steps

    def test_two_rights_and_every_two_rules(self):
        rng = random.Random(7)
        for sole in ([], ["a"], ["b"], ["a", "b"]):
            for pair in itertools.combinations(small_rules(sole), 2):
                rules = [(rule[0], f"r{at}", *rule[1:]) for at, rule in enumerate(pair)]
                # Founders who hold no shared right, so that little is reached.
                founders = [(name, []) for name in PEOPLE[:rng.randint(0, 5)]]
                if founders and rng.random() < 0.7:
                    founders[-1] = (founders[-1][0], sole)
                charter = Charter(rights="ab", sole=sole, founders=founders, rules=rules)
                self.ask(charter, draw_goal(rng, charter, 3), draw_trusted(rng, charter), 20000)

    def test_two_rights_and_rules_that_need_many_people(self):
        goals = [[(None, ["a", "b"], []), ("dan", ["a", "b"], []), ("ann", ["a", "b"], [])],
                 [(None, ["a"], ["b"]), ("dan", ["a"], ["b"]), ("eve", ["a"], ["b"])],
                 [("ann", ["a", "b"], []), ("bob", ["a", "b"], []), ("cid", ["b"], [])]]
        pairs = [(("give", "g", ["b"], [], [], "a"), ("give", "h", ["a"], [], [], "b")),
                 (("give", "g", [], [], [], "a"), ("give", "h", ["a"], ["a"], [], "b")),
                 (("take", "t", ["b"], [], [], "b"), ("give", "h", ["a"], [], [], "a")),
                 (("take", "t", ["b"], ["b"], [], "a"), ("give", "h", [], [], [], "b"))]
        for goal, rules, trusted in itertools.product(goals, pairs, ([], ["bob"], ["ann", "dan"], PEOPLE)):
            charter = Charter(rights="ab", founders=[(name, []) for name in PEOPLE], rules=rules)
            self.ask(charter, goal, trusted, 20000)

    def test_drawn_charters_of_two_rights_and_two_rules(self):
        found = []
        for seed in range(600):
            rng = random.Random(seed)
            charter = draw_charter(rng, rights=(1, 2), rules=(0, 2), founders=5)
            found.append(self.ask(charter, draw_goal(rng, charter), draw_trusted(rng, charter), 20000))
        self.assertGreater(len([steps for steps in found if steps]), 15)

    def test_joins_and_claims_alone(self):
        found = []
        for seed in range(150):
            rng = random.Random(seed)
            rules = []
            for at in range(12):
                if rng.random() < 0.1:
                    rules.append(("join", f"r{at}", [rng.choice(RIGHTS)]))
                else:
                    right = rng.choice(RIGHTS)
                    needs, lacks = split_of(rng, [one for one in RIGHTS if one != right], rng.choice([0.15, 0.3]))
                    rules.append(("claim", f"r{at}", needs, lacks, right))
            charter = Charter(rights=RIGHTS, founders=[("ann", [rng.choice(RIGHTS)]), ("bob", [])], rules=rules)
            person = rng.choice([None, "ann", "bob"])
            found.append(self.ask(charter, [(person, *split_of(rng, RIGHTS, 0.5))], draw_trusted(rng, charter), 2000))
        self.assertGreater(found.count(None), 30)
        self.assertGreater(len([steps for steps in found if steps]), 30)

    def test_joins_and_claims_that_need_all_that_they_can(self):
        rules = [("claim", f"c{right}", [], [], right) for right in RIGHTS]
        rules += [("claim", f"d{right}", [], [one for one in RIGHTS if one != right], right) for right in RIGHTS]
        charter = Charter(rights=RIGHTS, sole=[], founders=[("tom", [])], rules=rules)
        for holds, lacks in ((RIGHTS, []), (RIGHTS[:3], RIGHTS[3:]), ([], RIGHTS)):
            for trusted in ([], ["tom"]):
                self.ask(charter, [(None, holds, lacks)], trusted, 2000)
                self.ask(charter, [("tom", holds, lacks)], trusted, 2000)

    def test_drawn_charters_are_answered_fast(self):
        start = time.process_time()
        for seed in range(400):
            rng = random.Random(seed)
            charter = draw_charter(rng, rights=(2, 4), rules=(1, 6))
            can_come(charter, draw_goal(rng, charter), trusted=draw_trusted(rng, charter))
        # It takes less than one second here; the bound is for slow machines.
        self.assertLess(time.process_time() - start, 20)


if __name__ == "__main__":
    unittest.main()
