"""Points 65 to 68: what a workbench keeps, its changes, undo and redo, and several changes at once."""

import itertools
import random
import unittest

from helpers import draw_charter, draw_goal, draw_trusted
from whoevermay.bench import Workbench
from whoevermay.charters import Charter
from whoevermay.errors import InvalidCharter, InvalidGoal, NameInUse, NothingToRedo, NothingToUndo, UnknownName, WhoevermayError
from whoevermay.notation import format_charter

CLUB = Charter(rights=["member", "key"], founders=[("ann", ["key"]), ("bob", [])],
               rules=[("join", "enter", ["member"]), ("give", "teach", ["key"], ["member"], [], "key")])
HUT = Charter(rights=["a", "b"], founders=[("cid", ["a"])], rules=[("claim", "grab", ["a"], [], "b")])
KEY = [(None, ["member", "key"], [])]
DROP = ("drop", "leave", [], [], "member")


def state_of(bench):
    """All that is defined, with the charters themselves."""
    return ([(name, bench.charter(name)) for name in bench.charter_names()],
            [(name, bench.question(name)) for name in bench.question_names()])


def steps_of(bench):
    """What is defined at each moment that undo and redo lead to, with the place of now; the bench is as it was then."""
    states = [state_of(bench)]
    undone = 0
    while True:
        try:
            bench.undo()
        except NothingToUndo:
            break
        undone += 1
        states.insert(0, state_of(bench))
    redone = 0
    while True:
        try:
            bench.redo()
        except NothingToRedo:
            break
        redone += 1
        if redone > undone:
            states.append(state_of(bench))
    for _ in range(redone - undone):
        bench.undo()
    return states, undone


class Benches(unittest.TestCase):
    def bench(self):
        """A bench with two charters and a question about each of them, behind five changes, one of which is undone."""
        bench = Workbench()
        bench.set_charter("club", CLUB)
        bench.set_charter("hut", HUT)
        bench.ask("q", charter="club", goal=KEY, trusted=["bob"])
        bench.ask("r", charter="hut", goal=[("cid", ["b"], [])])
        bench.set_rule("hut", ("drop", "lose", [], [], "a"))
        bench.undo()
        return bench

    def assert_refused(self, error, bench, method, *arguments, **more):
        """The change raises the error, given with its field, and changes nothing at all."""
        before = (steps_of(bench), bench.decided, bench.kept)
        with self.assertRaises(error[0]) as caught:
            getattr(bench, method)(*arguments, **more)
        self.assertEqual((type(caught.exception), *vars(caught.exception).values()), error)
        self.assertIsInstance(caught.exception, WhoevermayError)
        self.assertEqual((steps_of(bench), bench.decided, bench.kept), before)

    def assert_changes(self, bench, method, *arguments, **more):
        """The change returns nothing and takes away what can be redone; it can be undone and redone by itself."""
        (states, at) = steps_of(bench)
        self.assertIsNone(getattr(bench, method)(*arguments, **more))
        now = state_of(bench)
        self.assertEqual(steps_of(bench), (states[:at + 1] + [now], at + 1))


class Changes(Benches):
    def test_a_new_bench(self):
        bench = Workbench()
        self.assertEqual((bench.charter_names(), bench.question_names(), bench.answers()), ([], [], []))
        self.assertEqual((bench.decided, bench.kept), (0, 0))
        for name in ("club", ""):
            for method in ("charter", "question", "answer", "remove_charter", "drop"):
                self.assert_refused((UnknownName, name), bench, method, name)
        self.assertEqual(steps_of(bench), ([([], [])], 0))

    def test_charters(self):
        bench = self.bench()
        self.assertIs(bench.charter("club"), CLUB)
        self.assertIs(bench.charter("hut"), HUT)
        self.assert_changes(bench, "set_charter", "abbey", HUT)
        self.assertEqual(bench.charter_names(), ["abbey", "club", "hut"])
        self.assertIs(bench.charter("abbey"), HUT)
        self.assert_changes(bench, "remove_charter", "abbey")
        self.assertEqual(bench.charter_names(), ["club", "hut"])
        self.assert_refused((UnknownName, "abbey"), bench, "charter", "abbey")

    def test_replacing_a_charter(self):
        bench = self.bench()
        self.assert_changes(bench, "set_charter", "club", HUT)
        self.assertIs(bench.charter("club"), HUT)
        self.assertEqual(bench.charter_names(), ["club", "hut"])
        self.assertEqual(bench.question("q"), ("club", ((None, ("member", "key"), ()),), ("bob",)))

    def test_charters_and_questions_of_the_same_name_apart(self):
        bench = self.bench()
        self.assert_changes(bench, "ask", "club", charter="hut", goal=[("cid", [], [])])
        self.assert_changes(bench, "set_charter", "q", HUT)
        self.assertEqual((bench.charter_names(), bench.question_names()), (["club", "hut", "q"], ["club", "q", "r"]))
        self.assertIs(bench.charter("club"), CLUB)
        self.assertEqual(bench.question("club"), ("hut", (("cid", (), ()),), ()))
        self.assert_changes(bench, "remove_charter", "q")
        self.assertEqual(bench.question("q")[0], "club")
        self.assert_changes(bench, "drop", "club")
        self.assertIs(bench.charter("club"), CLUB)
        self.assert_refused((UnknownName, "r"), bench, "charter", "r")
        self.assert_refused((UnknownName, "hut"), bench, "question", "hut")
        self.assert_refused((UnknownName, "hut"), bench, "drop", "hut")
        self.assert_refused((UnknownName, "r"), bench, "remove_charter", "r")
        self.assert_refused((UnknownName, "r"), bench, "set_rule", "r", DROP)
        self.assert_refused((UnknownName, "q"), bench, "ask", "s", charter="q", goal=KEY)

    def test_removing_a_charter(self):
        bench = self.bench()
        self.assert_refused((UnknownName, "none"), bench, "remove_charter", "none")
        self.assert_refused((NameInUse, "club"), bench, "remove_charter", "club")
        self.assert_refused((NameInUse, "hut"), bench, "remove_charter", "hut")
        bench.ask("q", charter="hut", goal=[("cid", [], [])])
        self.assert_changes(bench, "remove_charter", "club")
        bench.drop("q")
        self.assert_refused((NameInUse, "hut"), bench, "remove_charter", "hut")
        bench.drop("r")
        self.assert_changes(bench, "remove_charter", "hut")
        self.assertEqual(bench.charter_names(), [])

    def test_setting_a_rule(self):
        bench = self.bench()
        self.assert_changes(bench, "set_rule", "club", DROP)
        self.assertEqual(format_charter(bench.charter("club")), format_charter(CLUB.with_rule(DROP)))
        self.assertEqual(bench.charter("club").rule_names, ("enter", "teach", "leave"))
        self.assert_changes(bench, "set_rule", "club", ("join", "teach", []))
        self.assertEqual(bench.charter("club").rules, (("join", "enter", ("member",)), ("join", "teach", ()),
                                                       ("drop", "leave", (), (), "member")))
        self.assert_changes(bench, "set_rule", "club", ("join", "teach", []))
        self.assertEqual(CLUB.rule_names, ("enter", "teach"))
        self.assertIs(bench.charter("hut"), HUT)

    def test_rules_that_are_refused(self):
        bench = self.bench()
        for rule in [("claim", "grab", [], [], "nil"), ("none", "grab", []), ("join", "No", []), ("join", "grab", ["key"], []),
                     ("pass", "p", [], [], [], "key"), (), ("join",), ("join", "enter")]:
            self.assert_refused((InvalidCharter,), bench, "set_rule", "club", rule)
            self.assert_refused((UnknownName, "none"), bench, "set_rule", "none", rule)
        for at in range(10):
            bench.set_rule("club", ("join", f"j{at}", []))
        self.assert_refused((InvalidCharter,), bench, "set_rule", "club", ("join", "j10", []))
        self.assert_refused((UnknownName, "none"), bench, "set_rule", "none", DROP)

    def test_removing_a_rule(self):
        bench = self.bench()
        self.assert_changes(bench, "remove_rule", "club", "enter")
        self.assertEqual(format_charter(bench.charter("club")), format_charter(CLUB.without_rules(["enter"])))
        self.assert_refused((UnknownName, "enter"), bench, "remove_rule", "club", "enter")
        self.assert_refused((UnknownName, "grab"), bench, "remove_rule", "club", "grab")
        self.assert_refused((UnknownName, "none"), bench, "remove_rule", "none", "grab")
        self.assert_refused((UnknownName, "none"), bench, "remove_rule", "none", "teach")
        self.assertEqual(bench.charter("club").rule_names, ("teach",))
        self.assertEqual(CLUB.rule_names, ("enter", "teach"))

    def test_asking(self):
        bench = self.bench()
        self.assertEqual(bench.question("r"), ("hut", (("cid", ("b",), ()),), ()))
        goal = [(None, ["key", "member"], []), ["ann", [], ("key", "member")]]
        self.assert_changes(bench, "ask", "s", charter="club", goal=goal, trusted=["bob", "ann", "bob"])
        kept = ("club", ((None, ("member", "key"), ()), ("ann", (), ("member", "key"))), ("bob", "ann", "bob"))
        self.assertEqual(bench.question("s"), kept)
        self.assertEqual([type(part) for part in bench.question("s")], [str, tuple, tuple])
        self.assertEqual([type(part) for part in bench.question("s")[1]], [tuple, tuple])
        self.assertEqual(bench.question_names(), ["q", "r", "s"])

    def test_asking_anew(self):
        bench = self.bench()
        self.assert_changes(bench, "ask", "q", charter="hut", goal=[(None, [], [])])
        self.assertEqual(bench.question("q"), ("hut", ((None, (), ()),), ()))
        self.assertEqual(bench.question_names(), ["q", "r"])

    def test_questions_that_are_refused(self):
        bench = self.bench()
        bad = [("zoe", ["nil"], []), ("ann", [], []), ("ann", [], [])]
        self.assert_refused((UnknownName, "none"), bench, "ask", "q", charter="none", goal=bad, trusted=["yan"])
        self.assert_refused((UnknownName, "zoe"), bench, "ask", "q", charter="club", goal=bad, trusted=["yan"])
        self.assert_refused((UnknownName, "nil"), bench, "ask", "s", charter="club", goal=[("ann", ["nil"], [])], trusted=["yan"])
        for goal in ([], KEY * 4, bad[1:], [(None, ["key"], ["key"])], [(None, ["key", "key"], [])]):
            self.assert_refused((InvalidGoal,), bench, "ask", "q", charter="club", goal=goal, trusted=["yan"])
        self.assert_refused((UnknownName, "yan"), bench, "ask", "q", charter="club", goal=KEY, trusted=["ann", "yan", "xia"])
        # The charter that is defined now decides.
        bench.set_charter("club", HUT)
        self.assert_refused((UnknownName, "member"), bench, "ask", "q", charter="club", goal=KEY)
        bench.ask("q", charter="club", goal=[("cid", [], [])])

    def test_dropping(self):
        bench = self.bench()
        self.assert_changes(bench, "drop", "q")
        self.assertEqual(bench.question_names(), ["r"])
        self.assert_refused((UnknownName, "q"), bench, "drop", "q")
        self.assert_refused((UnknownName, "q"), bench, "question", "q")
        self.assert_refused((UnknownName, "q"), bench, "answer", "q")

    def test_a_question_stays_as_it_is_when_its_charter_is_replaced(self):
        bench = self.bench()
        bench.ask("s", charter="club", goal=[(None, ["key", "member"], [])])
        turned = Charter(rights=["key", "member"], founders=[("ann", [])])
        bench.set_charter("club", turned)
        self.assertEqual(bench.question("s")[1], ((None, ("member", "key"), ()),))
        bench.ask("t", charter="club", goal=[(None, ["member", "key"], [])])
        self.assertEqual(bench.question("t")[1], ((None, ("key", "member"), ()),))

    def test_names_in_ascending_order(self):
        bench = Workbench()
        names = ["m", "b", "z", "a1", "a", "ab", "b0"]
        for name in names:
            bench.set_charter(name, HUT)
            bench.ask(name + "q", charter=name, goal=[("cid", [], [])])
        self.assertEqual(bench.charter_names(), sorted(names))
        self.assertEqual(bench.question_names(), sorted(name + "q" for name in names))
        self.assertEqual([name for name, _ in bench.answers()], bench.question_names())

    def test_what_is_returned_may_be_spoilt(self):
        bench = self.bench()
        bench.charter_names().clear()
        bench.question_names().append("z")
        bench.answers().clear()
        self.assertEqual((bench.charter_names(), bench.question_names()), (["club", "hut"], ["q", "r"]))
        self.assertEqual(bench.answers(), [("q", ("comes", 1)), ("r", ("comes", 1))])

    def test_what_was_passed_may_be_changed_behind_the_call(self):
        bench = Workbench()
        bench.set_charter("club", CLUB)
        needs, rule = ["key"], ["drop", "d", [], [], "member"]
        rule[2] = needs
        bench.set_rule("club", rule)
        holds, trusted = ["key", "member"], ["bob"]
        goal = [("ann", holds, [])]
        changes = [("ask", "r", "club", goal, trusted)]
        bench.ask("q", charter="club", goal=goal, trusted=trusted)
        bench.change_all(changes)
        needs.clear()
        rule.clear()
        holds.append("nil")
        goal.append(None)
        trusted.append("zoe")
        changes.clear()
        self.assertEqual(bench.charter("club").rule("d"), ("drop", "d", ("key",), (), "member"))
        for name in "qr":
            self.assertEqual(bench.question(name), ("club", (("ann", ("member", "key"), ()),), ("bob",)))
        bench.undo()
        bench.redo()
        self.assertEqual(bench.question("r"), ("club", (("ann", ("member", "key"), ()),), ("bob",)))

    def test_nothing_that_is_passed_is_modified(self):
        bench = self.bench()
        goal, trusted, rule = [(None, ["key", "member"], [])], ["bob", "ann", "bob"], ["drop", "d", ["key"], [], "member"]
        changes = [("ask", "q", "club", goal, trusted), ("set_rule", "club", rule), ("drop", "none")]
        bench.ask("s", charter="club", goal=goal, trusted=trusted)
        bench.set_rule("club", rule)
        with self.assertRaises(UnknownName):
            bench.change_all(changes)
        bench.answers()
        self.assertEqual((goal, trusted, rule), ([(None, ["key", "member"], [])], ["bob", "ann", "bob"], ["drop", "d", ["key"], [], "member"]))
        self.assertEqual(changes, [("ask", "q", "club", goal, trusted), ("set_rule", "club", rule), ("drop", "none")])

    def test_two_benches_have_nothing_in_common(self):
        one, other = Workbench(), Workbench()
        one.set_charter("club", CLUB)
        one.ask("q", charter="club", goal=KEY)
        one.answers()
        self.assertEqual((state_of(other), other.decided), (([], []), 0))
        with self.assertRaises(NothingToUndo):
            other.undo()


# Every kind of change, once as a call and once as a tuple.
KINDS = [(("set_charter", "club", CLUB), {}, ("set_charter", "club", CLUB)),
         (("set_charter", "hut", HUT), {}, ("set_charter", "hut", HUT)),
         (("ask", "q"), {"charter": "club", "goal": KEY, "trusted": ["bob"]}, ("ask", "q", "club", KEY, ["bob"])),
         (("set_rule", "club", DROP), {}, ("set_rule", "club", DROP)),
         (("ask", "q"), {"charter": "hut", "goal": [("cid", ["b"], [])]}, ("ask", "q", "hut", [("cid", ["b"], [])], ())),
         (("remove_rule", "club", "enter"), {}, ("remove_rule", "club", "enter")),
         (("set_charter", "club", HUT), {}, ("set_charter", "club", HUT)),
         (("remove_charter", "club"), {}, ("remove_charter", "club")),
         (("ask", "r"), {"charter": "hut", "goal": [("cid", ["b"], [])]}, ("ask", "r", "hut", [("cid", ["b"], [])], [])),
         (("drop", "q"), {}, ("drop", "q"))]


class UndoAndRedo(Benches):
    def make(self, bench, kind):
        (method, *arguments), more, _ = kind
        getattr(bench, method)(*arguments, **more)

    def test_through_every_kind_of_change(self):
        bench = Workbench()
        states = [state_of(bench)]
        for kind in KINDS:
            self.make(bench, kind)
            states.append(state_of(bench))
        for before, behind in zip(states, states[1:]):
            self.assertNotEqual(before, behind)
        last = len(KINDS)
        for many in [*range(1, last + 1), last, 3]:
            for at in range(last - 1, last - many - 1, -1):
                self.assertIsNone(bench.undo())
                self.assertEqual(state_of(bench), states[at])
            if many == last:
                for _ in range(2):
                    with self.assertRaises(NothingToUndo):
                        bench.undo()
                    self.assertEqual(state_of(bench), states[0])
            for at in range(last - many + 1, last + 1):
                self.assertIsNone(bench.redo())
                self.assertEqual(state_of(bench), states[at])
            for _ in range(2):
                with self.assertRaises(NothingToRedo):
                    bench.redo()
                self.assertEqual(state_of(bench), states[-1])

    def test_undo_and_redo_in_turn(self):
        bench = self.bench()
        states, at = steps_of(bench)
        self.assertEqual((len(states), at), (6, 4))
        rng = random.Random(3)
        for _ in range(200):
            step = rng.choice([-1, 1])
            if not 0 <= at + step < len(states):
                with self.assertRaises(NothingToUndo if step < 0 else NothingToRedo):
                    bench.undo() if step < 0 else bench.redo()
            else:
                bench.undo() if step < 0 else bench.redo()
                at += step
            self.assertEqual(state_of(bench), states[at])

    def test_a_change_takes_away_what_can_be_redone(self):
        for kind in KINDS[:1] + KINDS[3:4] + KINDS[8:]:
            bench = self.bench()
            bench.undo()
            bench.ask("q", charter="hut", goal=[("cid", ["b"], [])])
            bench.undo()
            bench.redo()
            bench.undo()
            self.make(bench, kind)
            now = state_of(bench)
            with self.assertRaises(NothingToRedo):
                bench.redo()
            self.assertEqual(state_of(bench), now)

    def test_replacing_by_the_same_is_a_change(self):
        bench = self.bench()
        self.assert_changes(bench, "set_charter", "club", CLUB)
        bench = self.bench()
        self.assert_changes(bench, "ask", "q", charter="club", goal=KEY, trusted=["bob"])
        bench = self.bench()
        self.assert_changes(bench, "set_rule", "club", CLUB.rule("teach"))
        self.assertEqual(len(steps_of(bench)[0]), 6)
        bench.undo()
        self.assertIs(bench.charter("club"), CLUB)

    def test_a_change_that_is_refused_leaves_what_can_be_redone(self):
        bench = self.bench()
        bench.undo()
        states, at = steps_of(bench)
        self.assertEqual((len(states), at), (6, 3))
        self.assert_refused((UnknownName, "none"), bench, "drop", "none")
        self.assert_refused((NameInUse, "club"), bench, "remove_charter", "club")
        self.assert_refused((InvalidCharter,), bench, "set_rule", "club", ("none", "none"))
        self.assert_refused((InvalidGoal,), bench, "ask", "q", charter="club", goal=[])
        bench.redo()
        bench.redo()
        self.assertEqual(state_of(bench), states[5])

    def test_asking_for_answers_is_no_change(self):
        bench = self.bench()
        bench.undo()
        before = steps_of(bench)
        bench.answers()
        bench.answer("q")
        bench.question("q")
        bench.charter("hut")
        bench.charter_names()
        bench.question_names()
        self.assertEqual(steps_of(bench), before)

    def test_undo_brings_back_what_is_removed(self):
        bench = Workbench()
        bench.set_charter("hut", HUT)
        bench.remove_charter("hut")
        bench.undo()
        self.assertIs(bench.charter("hut"), HUT)
        bench.redo()
        self.assertEqual(bench.charter_names(), [])
        bench.undo()
        bench.undo()
        self.assertEqual(bench.charter_names(), [])
        bench.redo()
        self.assertIs(bench.charter("hut"), HUT)


class SeveralChanges(Benches):
    def test_no_change(self):
        for bench in (Workbench(), self.bench()):
            before = steps_of(bench)
            self.assertIsNone(bench.change_all([]))
            self.assertEqual(steps_of(bench), before)
        bench.redo()
        self.assertEqual(bench.charter("hut").rule_names, ("grab", "lose"))

    def test_one_change_of_every_kind(self):
        one, other = Workbench(), Workbench()
        for (method, *arguments), more, change in KINDS:
            getattr(one, method)(*arguments, **more)
            self.assertIsNone(other.change_all([change]))
            self.assertEqual(self.told(one), self.told(other))
        self.assertEqual([self.words(state) for state in steps_of(one)[0]], [self.words(state) for state in steps_of(other)[0]])

    def test_all_kinds_at_once(self):
        one, other = Workbench(), Workbench()
        other.set_charter("z", HUT)
        other.undo()
        for (method, *arguments), more, _ in KINDS:
            getattr(one, method)(*arguments, **more)
        self.assertIsNone(other.change_all([change for _, _, change in KINDS]))
        (states, at), (others, place) = steps_of(one), steps_of(other)
        self.assertEqual((at, place), (len(KINDS), len(KINDS)))
        self.assertEqual([self.words(state) for state in states], [self.words(state) for state in others])

    def words(self, state):
        return [(name, format_charter(charter)) for name, charter in state[0]], state[1]

    def told(self, bench):
        return self.words(state_of(bench))

    def test_each_change_is_undone_by_itself(self):
        bench = self.bench()
        bench.change_all([("set_rule", "club", DROP), ("drop", "r"), ("remove_charter", "hut")])
        bench.undo()
        self.assertEqual((bench.charter_names(), bench.question_names()), (["club", "hut"], ["q"]))
        bench.undo()
        self.assertEqual(bench.question_names(), ["q", "r"])
        bench.undo()
        self.assertIs(bench.charter("club"), CLUB)
        bench.redo()
        bench.redo()
        self.assertEqual(bench.question_names(), ["q"])

    # Changes that are possible one after another on the bench, and changes that are not, ahead of and behind them.
    GOOD = [("set_charter", "abbey", HUT), ("ask", "s", "abbey", [("cid", [], [])], ["cid"]), ("remove_rule", "club", "enter"),
            ("drop", "q"), ("set_rule", "hut", ("join", "come", []))]
    BAD = [(("set_rule", "club", ("join", "j", ["nil"])), (InvalidCharter,)), (("set_rule", "hut", ("join",)), (InvalidCharter,)),
           (("set_rule", "none", DROP), (UnknownName, "none")),
           (("remove_charter", "none"), (UnknownName, "none")), (("remove_charter", "hut"), (NameInUse, "hut")),
           (("remove_rule", "club", "none"), (UnknownName, "none")), (("ask", "t", "club", [], ["zoe"]), (InvalidGoal,)),
           (("ask", "t", "club", KEY, ["zoe"]), (UnknownName, "zoe")), (("ask", "t", "none", KEY, []), (UnknownName, "none")),
           (("drop", "none"), (UnknownName, "none"))]

    def test_a_change_that_is_not_possible(self):
        for (bad, error), many in itertools.product(self.BAD, range(len(self.GOOD) + 1)):
            for undone in range(3):
                bench = self.bench()
                for _ in range(undone):
                    bench.undo()
                if undone == 0 or bad != ("remove_charter", "hut") and (undone, many) in ((1, 0), (2, 1), (1, 3)):
                    self.assert_refused(error, bench, "change_all", [*self.GOOD[:many], bad, *self.GOOD[many:]])

    def test_the_first_error_is_raised(self):
        for (one, first), (other, second) in itertools.permutations(self.BAD, 2):
            self.assert_refused(first, self.bench(), "change_all", [self.GOOD[0], one, self.GOOD[1], other])

    def test_a_change_that_is_not_possible_only_behind_others(self):
        bench = self.bench()
        self.assert_refused((UnknownName, "q"), bench, "change_all", [("drop", "q"), ("drop", "q")])
        self.assert_refused((UnknownName, "enter"), bench, "change_all", [("remove_rule", "club", "enter")] * 2)
        self.assert_refused((UnknownName, "hut"), bench, "change_all",
                            [("drop", "r"), ("remove_charter", "hut"), ("ask", "r", "hut", [("cid", [], [])], [])])
        self.assert_refused((NameInUse, "new"), bench, "change_all",
                            [("set_charter", "new", HUT), ("ask", "t", "new", [("cid", [], [])], []), ("remove_charter", "new")])
        self.assert_refused((UnknownName, "member"), bench, "change_all", [("set_charter", "club", HUT), ("ask", "q", "club", KEY, [])])

    def test_a_change_that_is_possible_only_behind_others(self):
        bench = self.bench()
        bench.change_all([("drop", "r"), ("remove_charter", "hut"), ("set_charter", "hut", CLUB), ("ask", "r", "hut", KEY, [])])
        self.assertEqual(bench.question("r"), ("hut", ((None, ("member", "key"), ()),), ()))

    def test_what_was_undone_can_be_redone_behind_a_failure(self):
        bench = self.bench()
        bench.undo()
        with self.assertRaises(UnknownName):
            bench.change_all([("set_rule", "club", DROP), ("drop", "q"), ("drop", "none")])
        bench.redo()
        self.assertEqual(bench.question_names(), ["q", "r"])
        bench.redo()
        self.assertEqual(bench.charter("hut").rule_names, ("grab", "lose"))
        self.assertIs(bench.charter("club"), CLUB)
        with self.assertRaises(NothingToRedo):
            bench.redo()


class Drawn(unittest.TestCase):
    def test_drawn_changes_against_a_list_of_states(self):
        """Every state is written down; undo and redo go to and fro in the list."""
        faults = 0
        for seed in range(60):
            rng = random.Random(seed)
            charters = [draw_charter(rng, rights=(2, 2), founders=2) for _ in range(3)]
            bench = Workbench()
            states, at = [({}, {})], 0
            for _ in range(60):
                change = self.draw_change(rng, charters, states[at])
                if change is None:
                    step = rng.choice([-1, -1, 1])
                    if 0 <= at + step < len(states):
                        bench.undo() if step < 0 else bench.redo()
                        at += step
                else:
                    after = self.changed(states[at], change)
                    if after is None:
                        faults += 1
                        with self.assertRaises(WhoevermayError):
                            bench.change_all([change])
                    else:
                        bench.change_all([change])
                        states = states[:at + 1] + [after]
                        at += 1
                told = ({name: format_charter(charter) for name, charter in state_of(bench)[0]}, dict(state_of(bench)[1]))
                self.assertEqual(told, ({name: format_charter(charter) for name, charter in states[at][0].items()}, states[at][1]))
        self.assertGreater(faults, 100)

    def draw_change(self, rng, charters, state):
        word = rng.choice(["set_charter", "remove_charter", "set_rule", "remove_rule", "ask", "ask", "drop", None, None])
        name, charter = rng.choice("abc"), rng.choice(charters)
        some = state[0].get(name, charter)
        if word == "set_charter":
            return (word, name, charter)
        if word == "set_rule":
            return (word, name, rng.choice(charter.rules))
        if word == "remove_rule":
            return (word, name, rng.choice(["r0", "r1", "r5"]))
        if word == "ask":
            return (word, rng.choice("xyz"), name, draw_goal(rng, some), draw_trusted(rng, rng.choice([some, charter])))
        return word and (word, rng.choice("xyz") if word == "drop" else name)

    def changed(self, state, change):
        """The state behind the change, or None if it is not possible."""
        charters, questions = dict(state[0]), dict(state[1])
        word, name, *rest = change
        if word == "drop":
            return questions.pop(name, None) and (charters, questions)
        if word == "ask":
            charter, goal, trusted = charters.get(rest[0]), rest[1], rest[2]
            if charter is None or not set(trusted) <= set(charter.founder_names):
                return None
            kept = tuple((who, charter.ordered(holds), charter.ordered(lacks)) for who, holds, lacks in goal)
            return charters, questions | {name: (rest[0], kept, tuple(trusted))}
        if word == "set_charter":
            return charters | {name: rest[0]}, questions
        if name not in charters or word == "remove_charter" and name in [question[0] for question in questions.values()]:
            return None
        if word == "remove_charter":
            charters.pop(name)
            return charters, questions
        try:
            charter = charters[name]
            return charters | {name: charter.with_rule(rest[0]) if word == "set_rule" else charter.without_rules(rest)}, questions
        except WhoevermayError:
            return None


if __name__ == "__main__":
    unittest.main()
