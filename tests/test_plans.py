"""Points 55 to 60: plans, needless actions, joins ahead of all others, and the written form of plans."""

import copy
import random
import unittest

from helpers import draw_charter, draw_goal, draw_trusted, goal_met_by, walk
from whoevermay.charters import Charter
from whoevermay.errors import InvalidAction, InvalidGoal, InvalidNotation, UnknownName
from whoevermay.organisations import run
from whoevermay.plans import check_plan, joins_first, parse_plan, plan_text, shortened, steps_of, taking_part
from whoevermay.reach import can_come

CLUB = Charter(rights=["member", "key"], founders=[("ann", ["key"]), ("bob", [])],
               rules=[("join", "enter", ["member"]), ("give", "teach", ["key"], ["member"], [], "key"),
                      ("claim", "sign", [], ["key"], "member"), ("drop", "leave", [], [], "member"),
                      ("take", "bar", ["key"], [], [], "member")])
KEY = [(None, ["member", "key"], [])]
ENTER = [("enter", "cid", None), ("enter", "dan", None), ("teach", "ann", "cid")]


class Checking(unittest.TestCase):
    def assert_plan(self, is_plan, actions, goal=(*KEY,), trusted=()):
        self.assertIs(check_plan(CLUB, goal, actions, trusted=trusted), is_plan)
        self.assertIs(check_plan(CLUB, list(goal), tuple(actions), trusted=tuple(trusted)), is_plan)

    def test_plans(self):
        self.assert_plan(True, ENTER)
        self.assert_plan(True, [ENTER[0], ENTER[2]])
        self.assert_plan(True, [("sign", "bob", None), ("teach", "ann", "bob")])
        self.assert_plan(True, ENTER, goal=[("ann", ["key"], ["member"]), (None, ["key"], []), ("bob", [], ["member"])])

    def test_the_empty_list(self):
        self.assert_plan(True, [], goal=[("ann", ["key"], ["member"])])
        self.assert_plan(True, [], goal=[(None, [], ["key"])], trusted=["ann", "bob"])
        self.assert_plan(False, [])

    def test_actions_that_cannot_be_done(self):
        for faulty in [("none", "ann", None), ("", "ann", None), ("key", "ann", "bob"), ("sign", "zoe", None), ("teach", "zoe", "cid"),
                       ("teach", "ann", "zoe"), ("teach", "ann", None), ("sign", "bob", "ann"), ("sign", "bob", "bob"),
                       ("enter", "eve", "ann"), ("enter", "ann", None), ("enter", "cid", None), ("enter", "No name", None),
                       ("teach", "ann", "ann"), ("teach", "ann", "cid"), ("teach", "bob", "dan"), ("leave", "ann", None)]:
            self.assert_plan(False, [*ENTER, faulty])
            self.assert_plan(False, [*ENTER, faulty, ("sign", "bob", None)])
        self.assert_plan(False, [("teach", "ann", "cid"), *ENTER[:2]])

    def test_goals_that_are_not_met_at_the_end(self):
        self.assert_plan(False, ENTER[:2])
        self.assert_plan(False, [*ENTER, ("leave", "cid", None)])
        self.assert_plan(True, [*ENTER, ("leave", "dan", None)])
        self.assert_plan(False, ENTER, goal=[(None, ["key"], []), ("bob", ["key"], [])])

    def test_trusted_actors(self):
        self.assert_plan(False, ENTER, trusted=["ann"])
        self.assert_plan(False, ENTER, trusted=["bob", "ann"])
        self.assert_plan(True, ENTER, trusted=["bob"])
        self.assert_plan(True, ENTER + [("teach", "cid", "dan")], trusted=["bob"])
        self.assert_plan(True, [("enter", "cid", None)], goal=[(None, ["member"], [])], trusted=["ann", "bob"])
        self.assert_plan(False, [("sign", "bob", None), ("teach", "ann", "bob")], trusted=["bob"])

    def test_errors_in_their_order(self):
        for actions in ([], ENTER, [("none", "ann", None)]):
            with self.assertRaises(UnknownName) as caught:
                check_plan(CLUB, [(None, ["nil"], []), (None, ["key", "key"], [])], actions, trusted=["zoe"])
            self.assertEqual(caught.exception.name, "nil")
            with self.assertRaises(InvalidGoal):
                check_plan(CLUB, [(None, ["key", "key"], [])], actions, trusted=["zoe"])
            with self.assertRaises(InvalidGoal):
                check_plan(CLUB, [], actions, trusted=["zoe"])
            with self.assertRaises(UnknownName) as caught:
                check_plan(CLUB, KEY, actions, trusted=["ann", "zoe", "yan"])
            self.assertEqual(caught.exception.name, "zoe")

    def test_the_example(self):
        rules = [("join", "enter", ["member"]), ("give", "teach", ["key"], ["member"], [], "key")]
        club = Charter(rights=["member", "key"], founders=[("ann", ["key"])], rules=rules)
        actions = [("enter", "bob", None), ("enter", "cat", None), ("teach", "ann", "bob")]
        self.assertIs(check_plan(club, [(None, ["member", "key"], [])], actions), True)
        self.assertEqual(plan_text(shortened(club, [(None, ["member", "key"], [])], actions)), "enter bob\nteach ann bob")


class Shortening(unittest.TestCase):
    def test_no_needless_action(self):
        for actions in ([ENTER[0], ENTER[2]], [("sign", "bob", None), ("teach", "ann", "bob")]):
            left = shortened(CLUB, KEY, actions)
            self.assertEqual(left, actions)
            self.assertIsNot(left, actions)
        self.assertEqual(shortened(CLUB, [("bob", [], [])], []), [])

    def test_needless_actions(self):
        self.assertEqual(shortened(CLUB, KEY, ENTER), [ENTER[0], ENTER[2]])
        self.assertEqual(shortened(CLUB, [("ann", ["key"], [])], ENTER), [])
        self.assertEqual(shortened(CLUB, KEY, [("sign", "bob", None), *ENTER, ("enter", "eve", None)]), [ENTER[0], ENTER[2]])
        self.assertEqual(shortened(CLUB, [(None, ["member"], [])] * 2, ENTER), ENTER[:2])

    def test_the_first_needless_action_is_left_out(self):
        # Either of two is enough.
        self.assertEqual(shortened(CLUB, KEY, [*ENTER, ("teach", "ann", "dan")]), [ENTER[1], ("teach", "ann", "dan")])
        self.assertEqual(shortened(CLUB, [(None, ["member"], [])], ENTER[:2]), ENTER[1:2])
        # Without the first one the last one could not be done.
        self.assertEqual(shortened(CLUB, [(None, ["member"], [])], ENTER), ENTER[:1])

    def test_one_makes_another_needless(self):
        actions = [("enter", "cid", None), ("leave", "cid", None), ("sign", "cid", None), ("teach", "ann", "cid")]
        # Neither of two that undo each other can be left out alone.
        self.assertEqual(shortened(CLUB, KEY, actions), actions)
        # The join can be left out only when what follows from it has been.
        actions = [("enter", "cid", None), ("teach", "ann", "cid"), ("sign", "bob", None)]
        self.assertEqual(shortened(CLUB, [("bob", ["member"], [])], actions), [("sign", "bob", None)])

    def test_against_the_words(self):
        shorter = 0
        for seed in range(200):
            rng = random.Random(seed)
            charter = draw_charter(rng, rules=(3, 7))
            actions, office = walk(rng, charter, [], rng.randint(2, 10))
            goal = goal_met_by(rng, office)
            if goal is None:
                continue
            left = list(actions)
            at = 0
            while at < len(left):
                rest = left[:at] + left[at + 1:]
                if check_plan(charter, goal, rest):
                    left = rest
                    at = 0
                else:
                    at += 1
            before = list(actions)
            self.assertEqual(shortened(charter, goal, actions), left)
            self.assertEqual(actions, before)
            shorter += 0 < len(left) < len(actions)
        self.assertGreater(shorter, 40)

    def test_a_plan_with_the_fewest_steps_has_no_needless_step(self):
        for seed in range(150):
            rng = random.Random(seed)
            charter = draw_charter(rng, rules=(2, 6))
            goal = draw_goal(rng, charter)
            plan = can_come(charter, goal)
            if plan is not None:
                left = shortened(charter, goal, plan.actions)
                self.assertEqual(steps_of(charter, left), plan.steps)
                self.assertTrue(check_plan(charter, goal, left))

    def test_goals_are_checked(self):
        for actions in ([], ENTER):
            with self.assertRaises(InvalidGoal):
                shortened(CLUB, [], actions)
            with self.assertRaises(UnknownName):
                shortened(CLUB, [("zoe", [], [])], actions)


class Telling(unittest.TestCase):
    def test_steps(self):
        self.assertEqual(steps_of(CLUB, []), 0)
        self.assertEqual(steps_of(CLUB, ENTER[:2]), 0)
        self.assertEqual(steps_of(CLUB, ENTER), 1)
        self.assertEqual(steps_of(CLUB, [("leave", "ann", None), ("bar", "ann", "bob"), ("teach", "x", "y"), ("sign", "z", None)]), 4)

    def test_taking_part(self):
        self.assertEqual(taking_part(CLUB, []), [])
        self.assertEqual(taking_part(CLUB, ENTER), ["cid", "dan", "ann"])
        self.assertEqual(taking_part(CLUB, [("teach", "bob", "ann"), ("sign", "bob", None), ("teach", "ann", "bob"),
                                            ("bar", "ann", "eve"), ("sign", "abe", None)]), ["bob", "ann", "eve", "abe"])

    def test_joins_first(self):
        enter = [("enter", name, None) for name in ("zoe", "cid", "abe")]
        others = [("sign", "bob", None), ("teach", "ann", "bob"), ("leave", "bob", None)]
        for actions in ([enter[0], others[0], enter[1], others[1], others[2], enter[2]], enter + others, others + enter,
                        [others[0], *enter, *others[1:]]):
            self.assertEqual(joins_first(CLUB, actions), enter + others)
        for actions in ([], enter, others):
            left = joins_first(CLUB, actions)
            self.assertEqual(left, actions)
            self.assertIsNot(left, actions)

    def test_joins_first_of_drawn_runs(self):
        for seed in range(60):
            rng = random.Random(seed)
            charter = draw_charter(rng, rules=(3, 7))
            actions, office = walk(rng, charter, [], 10)
            ahead = joins_first(charter, actions)
            self.assertEqual(sorted(ahead, key=str), sorted(actions, key=str))
            after = run(charter, ahead)
            self.assertEqual({name: after.holds(name) for name in after.people},
                             {name: office.holds(name) for name in office.people})
            joins = [charter.rule(action[0])[0] == "join" for action in ahead]
            self.assertEqual(joins, sorted(joins, reverse=True))

    def test_joins_first_of_actions_that_cannot_be_done(self):
        for number, actions in [(0, [("teach", "ann", "cid"), *ENTER[:2]]), (2, [*ENTER[:2], ("none", "ann", None), ENTER[2]]),
                                (3, [*ENTER, ("teach", "ann", "cid")]), (1, [ENTER[0], ENTER[0]])]:
            with self.assertRaises(InvalidAction) as caught:
                joins_first(CLUB, actions)
            self.assertEqual(caught.exception.number, number)


class WrittenForm(unittest.TestCase):
    ROWS = [([], ""), (ENTER[:1], "enter cid"), (ENTER[2:], "teach ann cid"), (ENTER, "enter cid\nenter dan\nteach ann cid"),
            ([("a", "b1", None), ("abcdefghijkl", "c", "abcdefghijk2"), ("a", "b1", None)], "a b1\nabcdefghijkl c abcdefghijk2\na b1")]

    def test_both_ways(self):
        for actions, text in self.ROWS:
            self.assertEqual(plan_text(actions), text)
            self.assertEqual(plan_text(tuple(actions)), text)
            self.assertEqual(parse_plan(text), actions)

    def test_whether_the_actions_can_be_done_is_not_asked(self):
        self.assertEqual(parse_plan("none zoe zoe\nx y"), [("none", "zoe", "zoe"), ("x", "y", None)])
        self.assertEqual(plan_text([("none", "zoe", "zoe"), ("x", "y", None)]), "none zoe zoe\nx y")

    def test_faulty_lines(self):
        for line in ["enter", "enter ann bob cid", "enter  ann", "enter ann  bob", " enter ann", "enter ann ", "Enter ann", "enter Ann",
                     "enter ann Bob", "enter 1ann", "enter ann-bob", "enter ann\tbob", "enter abcdefghijklm", " ", "enter ann ",
                     "enter ann None bob", "enter a\u00e4", "enter ann\r", "1 ann"]:
            for number, text in [(1, line), (1, f"{line}\nenter ann"), (2, f"enter ann\n{line}"), (3, f"enter ann\nx y z\n{line}\nx y")]:
                self.assert_invalid(number, text)

    def test_empty_lines(self):
        for number, text in [(1, "\n"), (1, "\nenter ann"), (2, "enter ann\n"), (2, "enter ann\n\nenter bob"), (3, "enter ann\nx y z\n"),
                             (1, "\n\n")]:
            self.assert_invalid(number, text)

    def test_two_faults(self):
        self.assert_invalid(2, "enter ann\nenter\nx y\nX y")
        self.assert_invalid(1, " \n")

    def assert_invalid(self, number, text):
        with self.assertRaises(InvalidNotation) as caught:
            parse_plan(text)
        self.assertEqual(caught.exception.line, number, repr(text))


class Arguments(unittest.TestCase):
    def test_what_is_handed_in_stays_as_it_was(self):
        goal = [(None, ["member", "key"], [])]
        actions = [*ENTER, ("sign", "bob", None)]
        before = copy.deepcopy((goal, actions, vars(CLUB)))
        check_plan(CLUB, goal, actions, trusted=["bob"])
        shortened(CLUB, goal, actions)
        steps_of(CLUB, actions)
        taking_part(CLUB, actions)
        joins_first(CLUB, actions)
        plan_text(actions)
        self.assertEqual((goal, actions, vars(CLUB)), before)

    def test_the_lists_that_are_returned_are_new(self):
        actions = list(ENTER)
        for told in (shortened(CLUB, KEY, actions), joins_first(CLUB, actions), taking_part(CLUB, actions)):
            told.append("spoilt")
        self.assertEqual(actions, ENTER)


if __name__ == "__main__":
    unittest.main()
