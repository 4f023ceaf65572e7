"""Points 20 and 23 to 26: what was at each moment of a run."""

import random
import unittest

from helpers import draw_charter, draw_goal, draw_trusted, walk
from whoevermay.charters import Charter
from whoevermay.errors import InvalidAction, InvalidGoal, UnknownName
from whoevermay.histories import History
from whoevermay.organisations import Organisation, run

RULES = [("join", "hire", ["desk"]), ("join", "visit", []), ("claim", "sit", [], [], "desk"),
         ("drop", "leave", [], [], "desk"), ("give", "lend", ["key"], [], [], "key"),
         ("give", "seat", [], [], [], "desk"), ("take", "seize", ["key"], [], [], "key"),
         ("pass", "hand", [], [], [], "seal")]
CHARTER = Charter(rights=["desk", "key", "seal"], sole=["seal"], founders=[("ann", ["key", "seal"]), ("bob", [])], rules=RULES)
LONG = [("hire", "cid", None), ("hand", "ann", "cid"), ("lend", "ann", "bob"), ("hand", "cid", "bob"),
        ("visit", "dan", None), ("seize", "bob", "ann"), ("lend", "bob", "ann"), ("hand", "bob", "ann")]


def state(office):
    return [(person, office.holds(person)) for person in office.people]


class Moments(unittest.TestCase):
    def test_no_action(self):
        history = History(CHARTER, [])
        self.assertEqual((history.length(), history.actions, history.joined()), (1, [], []))
        self.assertIs(history.charter, CHARTER)
        self.assertEqual(state(history.at(0)), [("ann", ("key", "seal")), ("bob", ())])
        self.assertEqual(history.at(0).count, 0)

    def test_one_action(self):
        history = History(CHARTER, [("sit", "bob", None)])
        self.assertEqual(history.length(), 2)
        self.assertEqual(state(history.at(0)), [("ann", ("key", "seal")), ("bob", ())])
        self.assertEqual(state(history.at(1)), [("ann", ("key", "seal")), ("bob", ("desk",))])

    def test_every_moment_of_a_long_run(self):
        for trusted in ((), ("bob",), ["bob", "ann"]):
            # Who is trusted does not act.
            acting = [at for at, action in enumerate(LONG) if action[1] in trusted]
            actions = LONG[:acting[0]] if acting else LONG
            history = History(CHARTER, actions, trusted=trusted)
            self.assertEqual(history.length(), len(actions) + 1)
            for moment in range(len(actions) + 1):
                office = run(CHARTER, actions[:moment], trusted=trusted)
                told = history.at(moment)
                self.assertIsInstance(told, Organisation)
                self.assertEqual(state(told), state(office))
                self.assertEqual((told.count, told.trusted, told.charter), (moment, tuple(trusted), CHARTER))

    def test_what_is_done_to_a_moment_changes_nothing_else(self):
        history = History(CHARTER, LONG)
        before = [state(history.at(moment)) for moment in range(history.length())]
        for moment in range(history.length()):
            office = history.at(moment)
            office.do(("visit", "zoe", None))
            office.do(("sit", "zoe", None))
            self.assertEqual(office.count, moment + 2)
            self.assertEqual(state(history.at(moment)), before[moment])
            self.assertEqual(history.at(moment).count, moment)
        self.assertEqual([state(history.at(moment)) for moment in range(history.length())], before)
        self.assertEqual((history.length(), history.actions), (9, LONG))
        self.assertEqual(history.joined(), [("cid", 1), ("dan", 5)])

    def test_the_trusted_stay_trusted_in_a_moment(self):
        office = History(CHARTER, [("hand", "ann", "bob")], trusted=["bob"]).at(1)
        self.assertFalse(office.can_do(("hand", "bob", "ann")))
        self.assertFalse(office.can_do(("sit", "bob", None)))
        self.assertTrue(office.can_do(("sit", "ann", None)))

    def test_the_actions_may_be_changed_behind_the_call(self):
        actions = list(LONG)
        history = History(CHARTER, actions)
        actions.pop()
        actions[0] = ("visit", "eve", None)
        self.assertEqual(history.actions, LONG)
        self.assertEqual(history.joined(), [("cid", 1), ("dan", 5)])
        self.assertEqual(history.givers("ann", "seal"), ["bob"])
        self.assertEqual(History(CHARTER, tuple(LONG)).actions, LONG)

    def test_the_fields_are_copies(self):
        actions = list(LONG)
        history = History(CHARTER, actions)
        history.actions.clear()
        self.assertEqual(actions, LONG)
        self.assertEqual(history.length(), 9)
        self.assertEqual(history.givers("ann", "seal"), ["bob"])


class Faults(unittest.TestCase):
    def assert_invalid(self, number, actions, trusted=()):
        with self.assertRaises(InvalidAction) as caught:
            History(CHARTER, actions, trusted=trusted)
        self.assertEqual(caught.exception.number, number)

    def test_a_faulty_action_tells_its_number(self):
        for faulty in [("none", "ann", None), ("sit", "zoe", None), ("sit", "ann", "bob"), ("lend", "ann", None),
                       ("lend", "bob", "ann"), ("hire", "ann", None)]:
            for at in (0, 4, len(LONG)):
                self.assert_invalid(at, LONG[:at] + [faulty] + LONG[at:])
        self.assert_invalid(1, [LONG[0], ("none", "ann", None), ("none", "ann", None)])

    def test_trusted_founders_do_not_act(self):
        self.assert_invalid(1, LONG, trusted=["ann"])
        self.assert_invalid(5, LONG, trusted=["bob"])

    def test_unknown_trusted_names_come_first(self):
        for actions in ([], LONG, [("none", "ann", None)]):
            with self.assertRaises(UnknownName) as caught:
                History(CHARTER, actions, trusted=["bob", "cid", "zoe"])
            self.assertEqual(caught.exception.name, "cid")


class FirstMoments(unittest.TestCase):
    history = History(CHARTER, LONG)

    def assert_first(self, moment, *goal):
        for _ in range(2):
            self.assertEqual(self.history.first_moment(list(goal)), moment)
            self.assertEqual(self.history.first_moment(goal[::-1]), moment)

    def test_at_the_start(self):
        self.assert_first(0, ("ann", ["key"], []))
        self.assert_first(0, (None, ["seal", "key"], ["desk"]), ("bob", [], ["seal"]))
        self.assertEqual(History(CHARTER, []).first_moment([(None, ["seal"], [])]), 0)

    def test_later_and_over_again(self):
        self.assert_first(2, (None, ["desk", "seal"], []))
        self.assert_first(4, ("bob", ["seal"], []))
        self.assert_first(6, ("ann", [], ["key", "seal"]))
        self.assertFalse(self.history.at(8).meets([("ann", [], ["key"])]))

    def test_at_the_last_moment(self):
        self.assert_first(8, ("ann", ["seal"], []), ("bob", ["key"], []))

    def test_never(self):
        self.assert_first(None, (None, ["desk", "key"], []))
        self.assert_first(None, ("bob", ["desk"], []))
        self.assert_first(None, (None, ["key"], []), (None, ["key"], []), (None, ["key"], []))
        self.assertIsNone(History(CHARTER, []).first_moment([("bob", ["key"], [])]))

    def test_goals_of_those_who_joined(self):
        self.assert_first(1, (None, ["desk"], []))
        self.assert_first(1, (None, [], []), (None, [], []), (None, ["desk"], ["key"]))
        self.assert_first(5, ("bob", ["key"], []), (None, [], ["key", "seal", "desk"]))

    def test_several_demands(self):
        self.assert_first(3, ("bob", ["key"], []), ("ann", ["key"], []))
        self.assert_first(3, (None, ["key"], []), (None, ["key"], []), (None, ["seal"], []))
        self.assert_first(4, ("ann", ["key"], []), ("bob", ["seal", "key"], []))

    def test_refused_goals(self):
        for error, goal in [(InvalidGoal, []), (InvalidGoal, [("ann", [], [])] * 2), (InvalidGoal, [(None, ["key"], ["key"])]),
                            (UnknownName, [("cid", [], [])]), (UnknownName, [(None, ["nil"], [])])]:
            for actions in ([], LONG):
                with self.assertRaises(error):
                    History(CHARTER, actions).first_moment(goal)

    def test_drawn_histories(self):
        later = 0
        for seed in range(60):
            rng = random.Random(seed)
            charter = draw_charter(rng, rules=(3, 7))
            trusted = draw_trusted(rng, charter)
            actions, _ = walk(rng, charter, trusted, 8)
            history = History(charter, actions, trusted=trusted)
            for _ in range(6):
                goal = draw_goal(rng, charter)
                met = [at for at in range(history.length()) if run(charter, actions[:at], trusted=trusted).meets(goal)]
                self.assertEqual(history.first_moment(goal), met[0] if met else None)
                later += bool(met and met[0])
        self.assertGreater(later, 10)


class Spans(unittest.TestCase):
    history = History(CHARTER, LONG)

    def test_spans(self):
        for person, right, spans in [("ann", "key", [(0, 6), (7, 9)]), ("ann", "seal", [(0, 2), (8, 9)]),
                                     ("bob", "seal", [(4, 8)]), ("bob", "key", [(3, 9)]), ("cid", "seal", [(2, 4)]),
                                     ("cid", "desk", [(1, 9)]), ("cid", "key", []), ("dan", "desk", []), ("bob", "desk", [])]:
            self.assertEqual(self.history.spans(person, right), spans, (person, right))

    def test_got_and_lost_several_times(self):
        turns = [("sit", "bob", None), ("leave", "bob", None)] * 3
        self.assertEqual(History(CHARTER, turns).spans("bob", "desk"), [(1, 2), (3, 4), (5, 6)])
        self.assertEqual(History(CHARTER, turns[:5]).spans("bob", "desk"), [(1, 2), (3, 4), (5, 6)])
        self.assertEqual(History(CHARTER, turns[:4] + [("sit", "ann", None)]).spans("bob", "desk"), [(1, 2), (3, 4)])

    def test_one_moment(self):
        history = History(CHARTER, [])
        self.assertEqual(history.spans("ann", "key"), [(0, 1)])
        self.assertEqual(history.spans("bob", "key"), [])

    def test_the_list_may_be_spoilt(self):
        self.history.spans("ann", "key").clear()
        self.assertEqual(self.history.spans("ann", "key"), [(0, 6), (7, 9)])

    def test_unknown_names(self):
        for person, right, name in [("ann", "nil", "nil"), ("zoe", "nil", "nil"), ("zoe", "key", "zoe"), ("key", "key", "key"),
                                    ("", "key", ""), ("ann", "", ""), ("hire", "desk", "hire"), ("zoe", "ann", "ann")]:
            with self.assertRaises(UnknownName) as caught:
                self.history.spans(person, right)
            self.assertEqual(caught.exception.name, name)
        with self.assertRaises(UnknownName):
            History(CHARTER, []).spans("cid", "desk")


class JoinsAndGivers(unittest.TestCase):
    def test_joined(self):
        joins = [("visit", "zoe", None), ("hire", "cid", None), ("lend", "ann", "zoe"), ("visit", "abe", None)]
        self.assertEqual(History(CHARTER, joins).joined(), [("zoe", 1), ("cid", 2), ("abe", 4)])
        self.assertEqual(History(CHARTER, [("sit", "ann", None)]).joined(), [])

    def test_givers(self):
        history = History(CHARTER, LONG)
        for person, right, names in [("cid", "seal", ["ann"]), ("bob", "seal", ["cid"]), ("ann", "seal", ["bob"]),
                                     ("bob", "key", ["ann"]), ("ann", "key", ["bob"]), ("cid", "desk", []), ("dan", "key", [])]:
            self.assertEqual(history.givers(person, right), names, (person, right))

    def test_several_gifts(self):
        actions = [("seat", "ann", "bob"), ("leave", "bob", None), ("sit", "bob", None), ("leave", "bob", None),
                   ("hire", "cid", None), ("seat", "cid", "bob"), ("leave", "bob", None), ("seat", "ann", "bob"),
                   ("seat", "bob", "ann")]
        self.assertEqual(History(CHARTER, actions).givers("bob", "desk"), ["ann", "cid", "ann"])
        self.assertEqual(History(CHARTER, actions).givers("ann", "desk"), ["bob"])

    def test_a_take_gives_nothing(self):
        history = History(CHARTER, [("lend", "ann", "bob"), ("seize", "ann", "bob")])
        self.assertEqual(history.givers("bob", "key"), ["ann"])
        self.assertEqual(history.givers("ann", "key"), [])

    def test_names_that_nothing_has(self):
        history = History(CHARTER, LONG)
        for person, right in [("zoe", "key"), ("ann", "nil"), ("zoe", "nil"), ("", ""), ("key", "ann")]:
            self.assertEqual(history.givers(person, right), [])


if __name__ == "__main__":
    unittest.main()
