"""Points 19 and 20: goals, what is no goal, and when a goal is met."""

import itertools
import unittest

from whoevermay.charters import Charter
from whoevermay.errors import InvalidGoal, UnknownName, WhoevermayError
from whoevermay.organisations import Organisation, check_goal, run

RULES = [("join", "hire", ["read"]), ("join", "visit", [])]


def charter_of(*founders):
    return Charter(rights=["read", "key", "seal"], sole=["seal"], founders=founders, rules=RULES)


class Checking(unittest.TestCase):
    charter = charter_of(("ann", ["read"]), ("bob", ["key", "seal"]))

    def asks(self, goal):
        """All ways to hand in a goal."""
        return [lambda: check_goal(self.charter, goal), lambda: Organisation(self.charter).meets(goal)]

    def assert_unknown(self, name, *goal):
        for ask in self.asks(list(goal)):
            with self.subTest(goal):
                with self.assertRaises(UnknownName) as caught:
                    ask()
                self.assertEqual(caught.exception.name, name)

    def assert_invalid(self, *goal):
        for ask in self.asks(list(goal)):
            with self.subTest(goal):
                with self.assertRaises(InvalidGoal) as caught:
                    ask()
                self.assertIsInstance(caught.exception, WhoevermayError)
                self.assertNotIsInstance(caught.exception, UnknownName)

    def test_goals(self):
        for goal in [[(None, [], [])], [("ann", [], [])], [("ann", ["key", "read"], ["seal"])], [(None, (), ("seal", "read"))],
                     [(None, ["read", "key", "seal"], [])], [(None, [], ("read", "key", "seal"))],
                     [("bob", ["read"], []), ("ann", ["read"], ["key"])], [(None, ["seal"], []), (None, ["seal"], [])],
                     [(None, [], []), ("ann", [], []), (None, [], [])], [("ann", [], []), (None, [], []), ("bob", [], [])],
                     ((None, ("key",), ()), (None, ("key",), ()), (None, ("key",), ()))]:
            with self.subTest(goal):
                self.assertIsNone(check_goal(self.charter, goal))
                self.assertIsInstance(Organisation(self.charter).meets(goal), bool)

    def test_numbers_of_demands(self):
        self.assert_invalid()
        self.assert_invalid(*[(None, [], [])] * 4)
        self.assert_invalid(("ann", [], []), ("bob", [], []), *[(None, [], [])] * 3)
        with self.assertRaises(InvalidGoal):
            check_goal(self.charter, ())

    def test_two_demands_of_the_same_founder(self):
        self.assert_invalid(("ann", [], []), ("ann", [], []))
        self.assert_invalid(("ann", ["key"], []), (None, [], []), ("ann", ["read"], []))
        self.assert_invalid((None, [], []), ("bob", [], []), ("bob", [], []))

    def test_a_right_twice_in_a_demand(self):
        self.assert_invalid((None, ["key", "key"], []))
        self.assert_invalid((None, [], ["key", "key"]))
        self.assert_invalid((None, ["key"], ["key"]))
        self.assert_invalid(("ann", ["read", "seal"], ["key", "seal"]))
        self.assert_invalid((None, ["key"], []), ("ann", ("read", "key", "read"), ()))
        self.assert_invalid((None, ["key"], []), (None, ["key"], []), (None, ["key"], ["read", "key"]))

    def test_unknown_persons(self):
        for name in ["eve", "key", "hire", "", "Ann", "no name", "abcdefghijklm"]:
            self.assert_unknown(name, (name, [], []))
            self.assert_unknown(name, ("ann", ["key"], []), (None, [], []), (name, [], []))

    def test_who_joined_is_no_founder(self):
        office = run(self.charter, [("hire", "eve", None)])
        with self.assertRaises(UnknownName) as caught:
            office.meets([("eve", ["read"], [])])
        self.assertEqual(caught.exception.name, "eve")

    def test_unknown_rights(self):
        for name in ["x", "ann", "hire", "", "Key", "no name"]:
            self.assert_unknown(name, (None, [name], []))
            self.assert_unknown(name, (None, ["key", name], []))
            self.assert_unknown(name, ("ann", [], [name]))
            self.assert_unknown(name, ("ann", ["key"], ["read", name]))
            self.assert_unknown(name, (None, ["key"], []), (None, [name], []))

    def test_the_first_unknown_name_is_told(self):
        self.assert_unknown("p", ("p", ["h"], ["l"]))
        self.assert_unknown("h", ("ann", ["h"], ["l"]))
        self.assert_unknown("h", (None, ["key", "h", "i"], ["l"]))
        self.assert_unknown("l", ("ann", ["key"], ["l", "m"]))
        self.assert_unknown("l", ("ann", ["key"], ["l"]), ("p", ["h"], []))
        self.assert_unknown("h", ("ann", ["h"], []), ("p", [], []))
        self.assert_unknown("p", ("ann", ["key"], []), ("p", ["h"], []), ("q", [], []))
        self.assert_unknown("h", ("ann", ["key"], []), ("bob", ["h"], ["l"]), ("q", [], []))

    def test_unknown_names_come_ahead_of_invalid_goals(self):
        self.assert_unknown("x", *[(None, [], [])] * 3, ("x", [], []))
        self.assert_unknown("x", *[(None, [], [])] * 4, (None, [], ["x"]))
        self.assert_unknown("x", ("ann", [], []), ("ann", [], []), (None, ["x"], []))
        self.assert_unknown("x", ("ann", [], []), ("ann", [], ["x"]))
        self.assert_unknown("x", (None, ["key", "key"], ["key", "x"]))
        self.assert_unknown("x", (None, ["key", "key"], ["key"]), ("ann", [], ["x"]))
        self.assert_unknown("x", ("x", [], []), ("x", [], []))
        self.assert_unknown("x", (None, ["x", "x"], []))

    def test_what_is_handed_in_stays_as_it_was(self):
        goal = [("ann", ["seal", "key"], ["read"]), [None, ["key"], ["seal", "read"]]]
        check_goal(self.charter, goal)
        Organisation(self.charter).meets(goal)
        self.assertEqual(goal, [("ann", ["seal", "key"], ["read"]), [None, ["key"], ["seal", "read"]]])


class Meeting(unittest.TestCase):
    charter = charter_of(("ann", ["read", "key"]), ("bob", ["key"]), ("cid", ["seal"]))

    def assert_meets(self, met, *goal, joins=()):
        office = run(self.charter, joins)
        for demands in itertools.permutations(goal):
            with self.subTest(demands):
                self.assertIs(office.meets(list(demands)), met)
                self.assertIs(office.meets(demands), met)

    def test_one_demand_of_anybody(self):
        self.assert_meets(True, (None, [], []))
        self.assert_meets(True, (None, ["seal"], []))
        self.assert_meets(True, (None, ["key"], ["read"]))
        self.assert_meets(True, (None, ["key", "read"], ["seal"]))
        self.assert_meets(False, (None, ["key", "seal"], []))
        self.assert_meets(False, (None, ["read"], ["key"]))
        self.assert_meets(False, (None, [], ["key", "seal"]))

    def test_one_demand_of_a_founder(self):
        self.assert_meets(True, ("ann", [], []))
        self.assert_meets(True, ("ann", ["key", "read"], ["seal"]))
        self.assert_meets(False, ("ann", ["seal"], []))
        self.assert_meets(False, ("ann", ["key"], ["read"]))
        self.assert_meets(False, ("ann", ["key", "seal"], []))
        self.assert_meets(False, ("ann", ["key"], ["seal", "read"]))

    def test_two_demands_are_met_by_different_people(self):
        self.assert_meets(True, (None, ["key"], []), (None, ["key"], []))
        self.assert_meets(True, (None, ["key"], []), (None, ["read"], []))
        self.assert_meets(False, (None, ["read"], []), (None, ["read"], []))
        self.assert_meets(False, (None, ["seal"], []), (None, ["seal"], []))
        self.assert_meets(True, (None, ["key"], []), ("ann", ["key"], []))
        self.assert_meets(False, (None, ["read"], []), ("ann", ["key"], []))
        self.assert_meets(False, (None, ["seal"], []), ("ann", ["seal"], []))
        self.assert_meets(True, ("bob", ["key"], []), ("ann", ["key"], []))
        self.assert_meets(False, ("bob", ["key"], []), ("cid", ["key"], []))

    def test_three_demands_that_one_choice_alone_meets(self):
        self.assert_meets(True, (None, [], []), (None, [], ["read"]), (None, ["key"], ["read"]))
        self.assert_meets(True, (None, [], []), (None, ["key"], []), ("bob", [], []))
        self.assert_meets(True, (None, [], []), (None, [], ["key"]), (None, ["read"], []))
        self.assert_meets(False, (None, ["key"], []), (None, ["key"], []), (None, ["key"], []))
        self.assert_meets(False, (None, ["key"], []), (None, ["key"], []), ("ann", [], []))
        self.assert_meets(True, ("ann", [], []), ("bob", [], []), ("cid", [], []))
        self.assert_meets(False, ("ann", [], []), ("bob", ["read"], []), ("cid", [], []))

    def test_not_more_demands_than_people(self):
        office = Organisation(charter_of(("ann", ["key"]), ("bob", ["key"])))
        self.assertIs(office.meets([(None, [], [])] * 2), True)
        self.assertIs(office.meets([(None, [], [])] * 3), False)
        self.assertIs(Organisation(charter_of()).meets([(None, [], [])]), False)

    def test_those_who_joined_meet_demands_of_anybody(self):
        hired = [("hire", "dan", None)]
        self.assert_meets(True, (None, ["read"], []), (None, ["read"], []), joins=hired)
        self.assert_meets(True, (None, ["read"], ["key"]), joins=hired)
        self.assert_meets(True, (None, ["read"], []), ("ann", ["read"], []), joins=hired)
        self.assert_meets(False, (None, ["read"], []), (None, ["read"], []), (None, ["read"], []), joins=hired)
        self.assert_meets(False, (None, [], ["read", "key", "seal"]), joins=hired)
        visited = [*hired, ("visit", "eve", None), ("hire", "flo", None)]
        self.assert_meets(True, (None, ["read"], []), (None, ["read"], []), (None, ["read"], []), joins=visited)
        self.assert_meets(True, (None, [], ["read", "key", "seal"]), (None, ["read"], ["key"]), ("ann", [], []), joins=visited)

    def test_trusted_founders_meet_demands(self):
        office = Organisation(self.charter, trusted=["ann", "cid"])
        self.assertIs(office.meets([("ann", ["read"], []), (None, ["seal"], [])]), True)

    def test_the_goal_of_a_later_moment(self):
        charter = charter_of(("ann", []), ("bob", [])).with_rule(("claim", "c", [], [], "key"))
        office = Organisation(charter)
        goal = [(None, ["key"], []), ("bob", ["key"], [])]
        for actor, met in [("bob", False), ("ann", True)]:
            self.assertIs(office.meets(goal), False)
            office.do(("c", actor, None))
            self.assertIs(office.meets(goal), met)

    def test_many_people(self):
        office = run(self.charter, [("hire", f"p{number}", None) for number in range(300)])
        self.assertIs(office.meets([(None, ["read"], ["key"])] * 3), True)
        self.assertIs(office.meets([(None, ["read"], []), (None, ["seal"], []), (None, ["seal"], [])]), False)

    def test_every_goal_against_all_choices_of_people(self):
        founders = [("ann", ["read"]), ("bob", ["read", "key"]), ("cid", ["seal"])]
        office = run(charter_of(*founders), [("hire", "dan", None)])
        holdings = {name: set(office.holds(name)) for name in office.people}
        demands = [(person, holds, lacks) for person in (None, "ann", "bob") for holds in ([], ["read"], ["key"])
                   for lacks in ([], ["seal"], ["key"]) if holds == [] or holds != lacks]
        for many in (1, 2, 3):
            for goal in itertools.product(demands, repeat=many):
                named = [demand[0] for demand in goal if demand[0]]
                if len(set(named)) == len(named):
                    self.assertIs(office.meets(goal), met_by_somebody(goal, holdings))


def met_by_somebody(goal, holdings):
    """Whether some choice of different people meets the demands, one person for each."""
    for people in itertools.permutations(holdings, len(goal)):
        if all(person in (None, one) and set(holds) <= holdings[one] and not set(lacks) & holdings[one]
               for one, (person, holds, lacks) in zip(people, goal)):
            return True
    return False


if __name__ == "__main__":
    unittest.main()
