"""Points 99 to 106: roles."""

import copy
import itertools
import random
import unittest

from helpers import draw_charter, draw_trusted, told, walk
from whoevermay.charters import Charter
from whoevermay.errors import InvalidQuestion, TooMany, UnknownName
from whoevermay.organisations import run
from whoevermay.plans import check_plan, steps_of
from whoevermay.questions import reachable_types
from whoevermay.reach import Plan, can_come
from whoevermay.roles import all_roles, missing_roles, role_plan, roles, strange_role

SIGN = Charter(rights=["key", "seal"], founders=[("ann", ["key"])], rules=[("claim", "sign", ["key"], [], "seal")])
# Who has the key can give it away and lose it; who is new has nothing.
DESK = Charter(rights=["boss", "key", "pen"], founders=[("ann", ["boss", "key"]), ("bob", []), ("cid", ["pen"])],
               rules=[("give", "lend", ["boss"], [], ["pen"], "key"), ("drop", "lose", ["key"], [], "boss"), ("claim", "buy", ["key"], ["boss"], "pen")])


class AllRoles(unittest.TestCase):
    def test_one_right(self):
        self.assertEqual(all_roles(Charter(rights=["a"])), [(), ("a",)])

    def test_two_rights(self):
        self.assertEqual(all_roles(Charter(rights=["key", "seal"])), [(), ("key",), ("seal",), ("key", "seal")])
        self.assertEqual(all_roles(Charter(rights=["z", "a"], sole=["a"])), [(), ("z",), ("a",), ("z", "a")])

    def test_three_rights(self):
        self.assertEqual(all_roles(Charter(rights="cab")), [(), ("c",), ("a",), ("b",), ("c", "a"), ("c", "b"), ("a", "b"), ("c", "a", "b")])

    def test_six_rights(self):
        rights = ["f", "a", "e", "b", "d", "c"]
        found = all_roles(Charter(rights=rights))
        self.assertEqual(len(found), 64)
        rows = [some for many in range(7) for some in sorted(itertools.combinations(range(6), many))]
        self.assertEqual(found, [tuple(rights[at] for at in row) for row in rows])

    def test_what_is_returned_is_new(self):
        all_roles(SIGN).clear()
        self.assertEqual(len(all_roles(SIGN)), 4)


class Roles(unittest.TestCase):
    def assert_roles(self, charter, rows, **more):
        found = roles(charter, **more)
        self.assertEqual(found, [(tuple(role), steps) for role, steps in rows])
        self.assertEqual(missing_roles(charter, **more), [role for role in all_roles(charter) if role not in [row[0] for row in found]])

    def test_the_example(self):
        self.assert_roles(SIGN, [(["key"], 0), (["key", "seal"], 1)])

    def test_nobody(self):
        self.assert_roles(Charter(rights=["a", "b"]), [])
        self.assertEqual(missing_roles(Charter(rights=["a", "b"])), [(), ("a",), ("b",), ("a", "b")])

    def test_all(self):
        charter = Charter(rights="ab", rules=[("join", "j", []), ("claim", "c", [], [], "a"), ("claim", "d", [], [], "b")])
        self.assert_roles(charter, [([], 0), (["a"], 1), (["b"], 1), (["a", "b"], 2)])
        self.assertEqual(missing_roles(charter), [])

    def test_anybody(self):
        self.assert_roles(DESK, [([], 0), (["key"], 1), (["pen"], 0), (["boss", "key"], 0), (["key", "pen"], 2)])
        self.assertEqual(missing_roles(DESK), [("boss",), ("boss", "pen"), ("boss", "key", "pen")])

    def test_a_founder(self):
        self.assert_roles(DESK, [(["key"], 1), (["boss", "key"], 0), (["key", "pen"], 2)], person="ann")
        self.assert_roles(DESK, [([], 0), (["key"], 1), (["key", "pen"], 2)], person="bob")
        self.assert_roles(DESK, [(["pen"], 0)], person="cid")

    def test_trusted_founders(self):
        self.assert_roles(DESK, [([], 0), (["pen"], 0), (["boss", "key"], 0)], trusted=["ann"])
        self.assert_roles(DESK, [([], 0)], person="bob", trusted=["ann"])
        self.assert_roles(DESK, [([], 0), (["key"], 1)], person="bob", trusted=["bob"])
        self.assert_roles(DESK, [([], 0), (["key"], 1), (["pen"], 0), (["boss", "key"], 0), (["key", "pen"], 2)], trusted=("bob", "cid"))

    def test_the_kinds_of_the_parts(self):
        for role, steps in roles(DESK):
            self.assertEqual((type(role), type(steps)), (tuple, int))
        self.assertEqual([type(row) for row in roles(DESK)], [tuple] * 5)
        self.assertEqual([type(row) for row in missing_roles(DESK)], [tuple] * 3)

    def test_errors(self):
        for function in (roles, missing_roles):
            for person in ("zoe", "key", ""):
                with self.assertRaises(UnknownName) as caught:
                    function(DESK, person=person, trusted=["yan"], limit=1)
                self.assertEqual(caught.exception.name, person)
            for person in (None, "bob"):
                with self.assertRaises(UnknownName) as caught:
                    function(DESK, person=person, trusted=["ann", "yan", "xia"], limit=1)
                self.assertEqual(caught.exception.name, "yan")
                with self.assertRaises(TooMany) as caught:
                    function(DESK, person=person, limit=1)
                self.assertEqual(caught.exception.limit, 1)
            self.assertEqual(function(Charter(rights=["a"], founders=[("ann", [])]), limit=1), [((), 0)] if function == roles else [("a",)])


class RolePlans(unittest.TestCase):
    def assert_plan(self, charter, role, steps, **more):
        """The plan leads to the role with so many steps, whatever the order of the rights; None: there is none."""
        for row in itertools.permutations(role):
            for rights in (row, list(row)):
                plan = role_plan(charter, rights, **more)
                if steps is None:
                    self.assertIsNone(plan)
                    continue
                self.assertIsInstance(plan, Plan)
                self.assertEqual(plan.steps, steps)
                goal = [(more.get("person"), role, [right for right in charter.rights if right not in role])]
                self.assertIs(check_plan(charter, goal, plan.actions, trusted=more.get("trusted", ())), True)
                self.assertEqual(len([action for action in plan.actions if charter.rule(action[0])[0] != "join"]), steps)

    def test_plans(self):
        self.assert_plan(DESK, [], 0)
        self.assert_plan(DESK, ["key"], 1)
        self.assert_plan(DESK, ["key", "pen"], 2)
        self.assert_plan(DESK, ["boss", "key"], 0)
        self.assert_plan(DESK, ["boss", "pen", "key"], None)
        self.assert_plan(DESK, ["boss"], None)
        self.assert_plan(SIGN, ["key", "seal"], 1)
        self.assertEqual(role_plan(SIGN, ["seal", "key"]).actions, [("sign", "ann", None)])

    def test_plans_of_a_founder(self):
        self.assert_plan(DESK, ["key", "pen"], 2, person="ann")
        self.assert_plan(DESK, ["key", "pen"], 2, person="bob")
        self.assert_plan(DESK, ["key", "pen"], None, person="cid")
        self.assert_plan(DESK, [], None, person="ann")
        self.assert_plan(DESK, [], 0, person="bob")

    def test_plans_with_trusted_founders(self):
        self.assert_plan(DESK, ["key"], None, trusted=["ann"])
        self.assert_plan(DESK, ["key"], 1, trusted=["bob"])
        self.assert_plan(DESK, ["key"], 1, trusted=["bob"], person="bob")
        self.assert_plan(DESK, ["key", "pen"], None, trusted=["bob"], person="bob")

    def test_strange_rights(self):
        for role, name in ((["nil"], "nil"), (["key", "nil", "none"], "nil"), (["key", "key", "nil"], "nil"), (["nil", "nil"], "nil"), (["ann"], "ann"), ([""], "")):
            with self.assertRaises(UnknownName) as caught:
                role_plan(DESK, role, person="zoe", trusted=["yan"], limit=1)
            self.assertEqual(caught.exception.name, name)

    def test_a_right_that_stands_twice(self):
        for role in (["key", "key"], ("key", "pen", "key"), ["boss", "boss", "boss"], ["boss", "key", "pen", "pen"]):
            with self.assertRaises(InvalidQuestion):
                role_plan(DESK, role, person="zoe", trusted=["yan"], limit=1)
            with self.assertRaises(InvalidQuestion):
                role_plan(DESK, role)

    def test_then_the_errors_of_can_come(self):
        with self.assertRaises(UnknownName) as caught:
            role_plan(DESK, ["key"], person="zoe", trusted=["yan"], limit=1)
        self.assertEqual(caught.exception.name, "zoe")
        with self.assertRaises(UnknownName) as caught:
            role_plan(DESK, ["key"], person="bob", trusted=["ann", "yan"], limit=1)
        self.assertEqual(caught.exception.name, "yan")
        with self.assertRaises(TooMany) as caught:
            role_plan(DESK, ["key"], limit=1)
        self.assertEqual(caught.exception.limit, 1)


class StrangeRoles(unittest.TestCase):
    FOUND = [(), ("key",), ("pen",), ("boss", "key"), ("key", "pen")]

    def test_the_example(self):
        self.assertEqual(strange_role(SIGN, [["key"], []]), (("key", "seal"), 1))

    def test_nothing_allowed(self):
        self.assertEqual(strange_role(DESK, []), ((), 0))
        self.assertEqual(strange_role(SIGN, []), (("key",), 0))
        self.assertIsNone(strange_role(Charter(rights=["a"]), []))

    def test_some_allowed(self):
        self.assertEqual(strange_role(DESK, self.FOUND[:1]), (("key",), 1))
        self.assertEqual(strange_role(DESK, self.FOUND[:2]), (("pen",), 0))
        self.assertEqual(strange_role(DESK, self.FOUND[:4]), (("key", "pen"), 2))
        self.assertEqual(strange_role(DESK, self.FOUND[1:]), ((), 0))
        self.assertEqual(strange_role(DESK, [("boss",), (), ("pen",), ("boss", "key")]), (("key",), 1))
        found = strange_role(DESK, self.FOUND[:4])
        self.assertEqual([type(part) for part in (found, *found)], [tuple, tuple, int])

    def test_all_allowed(self):
        self.assertIsNone(strange_role(DESK, self.FOUND))
        self.assertIsNone(strange_role(DESK, self.FOUND[::-1]))
        self.assertIsNone(strange_role(DESK, all_roles(DESK)))
        self.assertIsNone(strange_role(SIGN, [["key"], ["seal", "key"]]))

    def test_roles_in_any_order_and_twice(self):
        allowed = [["key"], [], ("key",), ["pen"], (), ["key", "boss"], ["boss", "key"], ("pen", "key")]
        self.assertIsNone(strange_role(DESK, allowed))
        self.assertEqual(strange_role(DESK, allowed[:-1] * 2), (("key", "pen"), 2))

    def test_trusted_founders(self):
        self.assertIsNone(strange_role(DESK, [[], ["pen"], ["boss", "key"]], trusted=["ann"]))
        self.assertEqual(strange_role(DESK, [[], ["pen"]], trusted=["ann"]), (("boss", "key"), 0))

    def test_the_first_faulty_role_decides(self):
        faults = [(["nil"], "nil"), (["key", "none"], "none"), (["key", "key"], None), (("pen", "key", "pen"), None), (["key", "key", "nil"], "nil")]
        for (one, name), (other, _) in itertools.product(faults, faults):
            for before in ([], [["key"]], [[], ["key", "pen"]]):
                for behind in ([], [other], [["key"], other]):
                    with self.assertRaises(UnknownName if name else InvalidQuestion) as caught:
                        strange_role(DESK, [*before, one, *behind], trusted=["zoe"], limit=1)
                    if name:
                        self.assertEqual(caught.exception.name, name)

    def test_a_strange_trusted_name(self):
        for allowed in ([], self.FOUND, all_roles(DESK)):
            with self.assertRaises(UnknownName) as caught:
                strange_role(DESK, allowed, trusted=["ann", "zoe", "yan"], limit=1)
            self.assertEqual(caught.exception.name, "zoe")

    # With a limit of one, a search is only possible for roles that somebody has at the start.
    def test_too_many(self):
        with self.assertRaises(TooMany) as caught:
            strange_role(DESK, [[]], limit=1)
        self.assertEqual(caught.exception.limit, 1)

    def test_roles_that_are_allowed_are_not_searched_for(self):
        with self.assertRaises(TooMany):
            can_come(DESK, [(None, ["key"], ["boss", "pen"])], limit=1)
        self.assertEqual(strange_role(DESK, [["key"], [], ["boss"]], limit=1), (("pen",), 0))
        self.assertIsNone(strange_role(DESK, all_roles(DESK), limit=1))

    def test_nor_are_those_behind_the_one_that_it_tells(self):
        self.assertEqual(strange_role(DESK, [], limit=1), ((), 0))
        self.assertEqual(strange_role(DESK, [[], ["key"], ["boss"]], limit=1), (("pen",), 0))


class Drawn(unittest.TestCase):
    def steps(self, charter, role, person, trusted, limit):
        goal = [(person, role, [right for right in charter.rights if right not in role])]
        plan = can_come(charter, goal, trusted=trusted, limit=limit)
        return None if plan is None else plan.steps

    def test_drawn_charters(self):
        found = []
        for seed in range(150):
            rng = random.Random(seed)
            charter = draw_charter(rng, rights=(1, 3), rules=(1, 6), founders=3)
            trusted, limit = draw_trusted(rng, charter), rng.choice([2000, 2000, 1, 2, 3])
            person = rng.choice([None, *charter.founder_names])
            rows = all_roles(charter)
            more = {"person": person, "trusted": trusted, "limit": limit}

            def fewest(role, person=person):
                return self.steps(charter, role, person, trusted, limit)

            def strange():
                for role in rows:
                    if role not in allowed:
                        steps = fewest(role, None)
                        if steps is not None:
                            return role, steps
                return None

            allowed = [role for role in rows if rng.random() < rng.choice([0.3, 0.95])]
            answers = [(told(lambda: roles(charter, **more)),
                        told(lambda: [(role, steps) for role, steps in [(role, fewest(role)) for role in rows] if steps is not None])),
                       (told(lambda: missing_roles(charter, **more)), told(lambda: [role for role in rows if fewest(role) is None])),
                       (told(lambda: strange_role(charter, allowed, trusted=trusted, limit=limit)), told(strange))]
            for answer, by_words in answers:
                self.assertEqual(answer, by_words)
            found.append([answer for answer, _ in answers])
            role = rng.choice(rows)
            plan = told(lambda: role_plan(charter, rng.sample(role, len(role)), **more))
            self.assertEqual(plan.steps if isinstance(plan, Plan) else plan, told(lambda: fewest(role)))
        for answers in zip(*found):
            self.assertGreater(len([answer for answer in answers if isinstance(answer, str)]), 5)
            self.assertGreater(len([answer for answer in answers if not isinstance(answer, str)]), 50)
        self.assertGreater([row[2] for row in found].count(None), 20)


    def test_nobody_ever_has_a_role_that_is_not_allowed(self):
        """Points 101 and 104, along drawn walks."""
        seen = 0
        for seed in range(120):
            rng = random.Random(seed)
            charter = draw_charter(rng, rights=(2, 3))
            trusted = draw_trusted(rng, charter)
            found = dict(roles(charter, trusted=trusted))
            self.assertEqual(list(found), reachable_types(charter, trusted=trusted))
            self.assertIsNone(strange_role(charter, list(found), trusted=trusted))
            actions, _ = walk(rng, charter, trusted, 10)
            for many in range(len(actions) + 1):
                office = run(charter, actions[:many], trusted=trusted)
                for person in office.people:
                    seen += 1
                    self.assertLessEqual(found[office.holds(person)], steps_of(charter, actions[:many]))
        self.assertGreater(seen, 1000)


class Arguments(unittest.TestCase):
    def test_what_is_handed_in_stays_as_it_was(self):
        role, allowed, trusted = ["pen", "key"], [["pen"], ["key", "boss"], []], ["cid"]
        before = copy.deepcopy((role, allowed, trusted, vars(DESK)))
        all_roles(DESK)
        roles(DESK, trusted=trusted)
        missing_roles(DESK, person="bob", trusted=trusted)
        role_plan(DESK, role, trusted=trusted)
        strange_role(DESK, allowed, trusted=trusted)
        self.assertEqual((role, allowed, trusted, vars(DESK)), before)


if __name__ == "__main__":
    unittest.main()
