"""Points 69 and 70: the answers of a workbench, what is computed and what is kept."""

import copy
import itertools
import random
import unittest

from helpers import RIGHTS, draw_charter, draw_goal, draw_trusted
from whoevermay.bench import Workbench, decide
from whoevermay.charters import Charter
from whoevermay.errors import InvalidGoal, NothingToUndo, TooMany, UnknownName
from whoevermay.reach import can_come

CLUB = Charter(rights=["member", "key"], founders=[("ann", ["key"]), ("bob", [])],
               rules=[("join", "enter", ["member"]), ("give", "teach", ["key"], ["member"], [], "key")])
HUT = Charter(rights=["a", "b"], founders=[("cid", ["a"])], rules=[("claim", "grab", ["a"], [], "b")])
# Each right can be had of who holds one of the next two, so that there are too many markings.
WHEEL = Charter(rights=RIGHTS, founders=[("ann", [])],
                rules=[("give", f"g{at}x{step}", [RIGHTS[(at + step) % 6]], [], [], RIGHTS[at]) for at in range(6) for step in (1, 2)])
MANY = [(None, RIGHTS[:3], []), (None, RIGHTS[3:], [])]
KEY = [(None, ["member", "key"], [])]


def bench_of(**charters):
    bench = Workbench()
    for name, charter in charters.items():
        bench.set_charter(name, charter)
    return bench


class Forms(unittest.TestCase):
    def assert_answer(self, answer, charter, goal, **more):
        found = decide(charter, goal, **more)
        self.assertEqual(found, answer)
        self.assertIs(type(found), tuple)
        self.assertEqual([type(part) for part in found], [type(part) for part in answer])

    def test_decide(self):
        self.assert_answer(("comes", 0), CLUB, [("ann", ["key"], [])])
        self.assert_answer(("comes", 1), CLUB, KEY)
        self.assert_answer(("comes", 2), CLUB, KEY * 2)
        self.assert_answer(("never",), CLUB, [("bob", ["member"], [])])
        self.assert_answer(("never",), CLUB, KEY, trusted=["ann"])
        self.assert_answer(("comes", 1), CLUB, KEY, trusted=("bob", "bob"))
        self.assert_answer(("many", 2000), WHEEL, MANY)
        self.assert_answer(("comes", 1), CLUB, KEY, limit=2000)

    def test_decide_with_a_limit_of_its_own(self):
        for limit in (1, 2, 50, 1999):
            self.assert_answer(("many", limit), WHEEL, MANY, limit=limit)
        self.assert_answer(("many", 1), CLUB, KEY, limit=1)
        self.assert_answer(("comes", 0), CLUB, [("ann", ["key"], [])], limit=1)

    def test_decide_of_what_is_unfit(self):
        for goal in ([("zoe", [], [])], [("ann", ["nil"], [])], [(None, [], ["nil"])], [], KEY * 4, [("ann", [], [])] * 2,
                     [(None, ["key"], ["key"])]):
            for trusted, limit in itertools.product(([], ["ann"], ["zoe"]), (1, 2000)):
                self.assert_answer(("unfit",), CLUB, goal, trusted=trusted, limit=limit)
        self.assert_answer(("unfit",), CLUB, KEY, trusted=["bob", "zoe"])
        self.assert_answer(("unfit",), CLUB, KEY, trusted=["zoe"], limit=1)

    def test_decide_tells_what_can_come_tells(self):
        found = []
        for seed in range(200):
            rng = random.Random(seed)
            charter, other = draw_charter(rng), draw_charter(rng)
            goal = draw_goal(rng, other if rng.random() < 0.2 else charter)
            trusted = draw_trusted(rng, charter)
            limit = rng.choice([1, 2, 3, 2000])
            try:
                plan = can_come(charter, goal, trusted=trusted, limit=limit)
                answer = ("never",) if plan is None else ("comes", plan.steps)
            except TooMany:
                answer = ("many", limit)
            except (UnknownName, InvalidGoal):
                answer = ("unfit",)
            self.assert_answer(answer, charter, goal, trusted=trusted, limit=limit)
            found.append(answer[0])
        for word in ("comes", "never", "many", "unfit"):
            self.assertGreater(found.count(word), 10)

    def test_decide_modifies_nothing(self):
        goal, trusted = [(None, ["key"], ["member"])], ["bob", "ann", "bob"]
        before = copy.deepcopy((goal, trusted, vars(CLUB)))
        decide(CLUB, goal, trusted=trusted)
        self.assertEqual((goal, trusted, vars(CLUB)), before)

    def test_the_answers_of_a_bench(self):
        bench = bench_of(club=CLUB, wheel=WHEEL)
        bench.ask("z", charter="club", goal=KEY)
        bench.ask("a", charter="club", goal=KEY, trusted=["ann"])
        bench.ask("m", charter="wheel", goal=MANY)
        bench.ask("b", charter="club", goal=[("bob", [], [])])
        self.assertEqual(bench.answer("z"), ("comes", 1))
        self.assertEqual(bench.answer("a"), ("never",))
        self.assertEqual(bench.answer("m"), ("many", 2000))
        self.assertEqual(bench.answers(), [("a", ("never",)), ("b", ("comes", 0)), ("m", ("many", 2000)), ("z", ("comes", 1))])
        for name in ("none", "club", ""):
            with self.assertRaises(UnknownName) as caught:
                bench.answer(name)
            self.assertEqual(caught.exception.name, name)

    def test_questions_that_no_longer_fit(self):
        for changed in [Charter(rights=["member", "lock"], founders=CLUB.with_rule(("join", "teach", [])).founders[1:]),
                        Charter(rights=["member", "key"], founders=[("bob", [])]),
                        Charter(rights=["key"], founders=[("ann", ["key"]), ("bob", [])]),
                        HUT]:
            bench = bench_of(club=CLUB)
            bench.ask("q", charter="club", goal=[("ann", ["key"], ["member"]), (None, [], [])], trusted=["bob"])
            self.assertEqual(bench.answer("q"), ("comes", 0))
            bench.set_charter("club", changed)
            self.assertEqual(bench.answer("q"), ("unfit",))
            self.assertEqual(bench.answers(), [("q", ("unfit",))])
            bench.set_charter("club", CLUB)
            self.assertEqual(bench.answer("q"), ("comes", 0))

    def test_a_question_whose_trusted_founder_is_gone(self):
        bench = bench_of(club=CLUB)
        bench.ask("q", charter="club", goal=KEY, trusted=["bob"])
        bench.set_charter("club", Charter(rights=CLUB.rights, founders=CLUB.founders[:1], rules=CLUB.rules))
        self.assertEqual(bench.answer("q"), ("unfit",))

    def test_a_question_is_about_the_charter_that_is_defined_when_it_is_answered(self):
        bench = bench_of(club=CLUB)
        bench.ask("q", charter="club", goal=KEY)
        self.assertEqual(bench.answer("q"), ("comes", 1))
        bench.remove_rule("club", "teach")
        self.assertEqual(bench.answer("q"), ("never",))
        bench.set_rule("club", ("join", "enter", ["member", "key"]))
        self.assertEqual(bench.answer("q"), ("comes", 0))
        bench.undo()
        self.assertEqual(bench.answer("q"), ("never",))


class Counts(unittest.TestCase):
    def setUp(self):
        self.bench = bench_of(club=CLUB, hut=HUT)
        self.bench.ask("q", charter="club", goal=KEY)

    def assert_asked(self, name, decided, kept, answer=None):
        """The answer is computed or kept so many times more."""
        before = (self.bench.decided, self.bench.kept)
        found = self.bench.answer(name)
        self.assertEqual((self.bench.decided - before[0], self.bench.kept - before[1]), (decided, kept))
        if answer is not None:
            self.assertEqual(found, answer)

    def assert_computed(self, name, answer=None):
        self.assert_asked(name, 1, 0, answer)

    def assert_kept(self, name, answer=None):
        self.assert_asked(name, 0, 1, answer)

    def test_the_same_question_asked_again(self):
        self.assertEqual((self.bench.decided, self.bench.kept), (0, 0))
        self.assert_computed("q", ("comes", 1))
        self.assert_kept("q", ("comes", 1))
        self.assert_kept("q", ("comes", 1))
        self.assertEqual((self.bench.decided, self.bench.kept), (1, 2))
        self.assertIs(type(self.bench.decided), int)
        self.assertIs(type(self.bench.kept), int)

    def test_questions_alike_but_for_the_name(self):
        self.bench.ask("r", charter="club", goal=KEY)
        self.assert_computed("r")
        self.assert_kept("q")
        self.assert_kept("r")

    def test_rights_in_another_order(self):
        self.assert_computed("q")
        self.bench.ask("r", charter="club", goal=[(None, ("key", "member"), ())])
        self.assert_kept("r")
        self.bench.ask("r", charter="club", goal=[("ann", [], ["key", "member"])])
        self.assert_computed("r")
        self.bench.ask("s", charter="club", goal=(["ann", (), ("member", "key")],))
        self.assert_kept("s")

    def test_other_goals(self):
        self.assert_computed("q")
        goals = [[(None, ["key"], ["member"])], [(None, ["key"], [])], [("ann", ["member", "key"], [])], KEY * 2, [(None, [], ["member", "key"])],
                 [(None, [], []), ("ann", [], [])], [("ann", [], []), (None, [], [])]]
        for goal in goals:
            self.bench.ask("q", charter="club", goal=goal)
            self.assert_computed("q")
        for goal in [KEY, *goals]:
            self.bench.ask("r", charter="club", goal=goal)
            self.assert_kept("r")

    def test_trusted_founders(self):
        self.assert_computed("q")
        for trusted in (["ann"], ["bob"], ["ann", "bob"]):
            self.bench.ask("r", charter="club", goal=KEY, trusted=trusted)
            self.assert_computed("r")
            self.assert_kept("r")
        for trusted in (["bob", "ann"], ("ann", "bob", "ann"), ["bob", "bob", "ann", "ann"]):
            self.bench.ask("s", charter="club", goal=KEY, trusted=trusted)
            self.assert_kept("s", ("never",))
        self.bench.ask("s", charter="club", goal=KEY, trusted=["bob", "bob"])
        self.assert_kept("s", ("comes", 1))
        self.bench.ask("s", charter="club", goal=KEY, trusted=["ann", "ann"])
        self.assert_kept("s", ("never",))
        self.assertEqual(self.bench.question("s")[2], ("ann", "ann"))

    def test_a_charter_defined_again_as_it_was(self):
        self.assert_computed("q")
        self.bench.set_charter("club", CLUB)
        self.assert_computed("q")
        self.bench.set_charter("club", CLUB)
        self.assert_computed("q")
        self.assert_kept("q")
        self.bench.undo()
        self.assert_kept("q")
        self.bench.undo()
        self.assert_kept("q")
        self.bench.redo()
        self.assert_kept("q")
        self.assertEqual((self.bench.decided, self.bench.kept), (3, 4))

    def test_the_same_charter_under_two_names(self):
        self.bench.set_charter("other", CLUB)
        self.bench.ask("r", charter="other", goal=KEY)
        self.assert_computed("q")
        self.assert_computed("r")
        self.assert_kept("q")
        self.assert_kept("r")

    def test_a_rule_set_again_as_it_was(self):
        self.assert_computed("q")
        self.bench.set_rule("club", CLUB.rule("teach"))
        self.assert_computed("q")
        self.bench.undo()
        self.assert_kept("q")
        self.bench.redo()
        self.assert_kept("q")
        self.bench.remove_rule("club", "enter")
        self.assert_computed("q", ("never",))
        self.bench.undo()
        self.assert_kept("q", ("comes", 1))
        self.bench.remove_rule("club", "enter")
        self.assert_computed("q", ("never",))

    def test_undo_and_redo_bring_back_entries(self):
        self.bench.set_charter("new", HUT)
        self.bench.ask("r", charter="new", goal=[("cid", ["b"], [])])
        self.assert_computed("r")
        self.bench.undo()
        self.bench.undo()
        self.bench.redo()
        self.bench.redo()
        self.assert_kept("r")
        self.bench.drop("r")
        self.bench.remove_charter("new")
        self.bench.undo()
        self.bench.undo()
        self.assert_kept("r")
        self.bench.undo()
        self.bench.undo()
        self.bench.set_charter("new", HUT)
        self.bench.ask("r", charter="new", goal=[("cid", ["b"], [])])
        self.assert_computed("r")

    def test_a_definition_behind_an_undone_one_is_new(self):
        self.bench.set_charter("club", CLUB.without_rules(["teach"]))
        self.assert_computed("q", ("never",))
        self.bench.undo()
        self.bench.set_charter("club", CLUB.with_rule(("claim", "grab", [], [], "key")))
        self.assert_computed("q", ("comes", 1))
        self.bench.undo()
        self.assert_computed("q", ("comes", 1))

    def test_a_question_dropped_and_asked_anew(self):
        self.assert_computed("q")
        self.bench.drop("q")
        self.bench.ask("q", charter="club", goal=KEY)
        self.assert_kept("q")
        self.bench.ask("q", charter="hut", goal=[("cid", [], [])])
        self.assert_computed("q")
        self.bench.ask("q", charter="club", goal=KEY)
        self.assert_kept("q")

    def test_other_charters_change_nothing(self):
        self.assert_computed("q")
        self.bench.set_charter("hut", CLUB)
        self.bench.remove_charter("hut")
        self.assert_kept("q")

    def test_answers_of_the_forms_many_and_unfit(self):
        self.bench.set_charter("wheel", WHEEL)
        self.bench.ask("m", charter="wheel", goal=MANY)
        self.bench.ask("n", charter="wheel", goal=MANY)
        self.assert_computed("m", ("many", 2000))
        self.assert_kept("m", ("many", 2000))
        self.assert_kept("n", ("many", 2000))
        self.bench.set_charter("club", HUT)
        self.bench.ask("r", charter="hut", goal=[("cid", [], [])])
        self.assert_computed("q", ("unfit",))
        self.assert_kept("q", ("unfit",))
        self.bench.undo()
        self.bench.undo()
        self.assert_computed("q", ("comes", 1))
        self.bench.redo()
        self.assert_kept("q", ("unfit",))

    def test_answers_asks_for_each_question(self):
        self.assertEqual((self.bench.decided, self.bench.kept), (0, 0))
        for name in "prs":
            self.bench.ask(name, charter="club", goal=KEY)
        self.bench.ask("t", charter="club", goal=KEY, trusted=["ann"])
        self.bench.answers()
        self.assertEqual((self.bench.decided, self.bench.kept), (2, 3))
        self.bench.answers()
        self.assertEqual((self.bench.decided, self.bench.kept), (2, 8))

    def test_nothing_but_asking_changes_the_counts(self):
        self.bench.answers()
        self.bench.answers()
        for method, arguments in [("set_charter", ("club", HUT)), ("set_charter", ("x", HUT)), ("remove_charter", ("x",)), ("undo", ()),
                                  ("undo", ()), ("redo", ()), ("set_rule", ("hut", ("join", "j", []))), ("remove_rule", ("hut", "j")),
                                  ("drop", ("q",)), ("undo", ()), ("charter_names", ()), ("question_names", ()), ("charter", ("hut",)),
                                  ("question", ("q",)), ("change_all", ([("drop", "q")],)), ("change_all", ([],)), ("undo", ())]:
            getattr(self.bench, method)(*arguments)
            self.assertEqual((self.bench.decided, self.bench.kept), (1, 1))
        for name in ("none", "hut"):
            with self.assertRaises(UnknownName):
                self.bench.answer(name)
        self.assertEqual((self.bench.decided, self.bench.kept), (1, 1))
        with self.assertRaises(NothingToUndo):
            while True:
                self.bench.undo()
        self.assertEqual((self.bench.charter_names(), self.bench.decided, self.bench.kept), ([], 1, 1))

    def test_changes_that_fail_leave_the_counts_and_the_entries(self):
        self.assert_computed("q")
        with self.assertRaises(UnknownName):
            self.bench.change_all([("set_charter", "club", CLUB), ("remove_rule", "club", "enter"), ("drop", "none")])
        self.assertEqual((self.bench.decided, self.bench.kept), (1, 0))
        self.assert_kept("q")

    def test_decide_counts_nothing(self):
        decide(CLUB, KEY)
        self.assertEqual((self.bench.decided, self.bench.kept), (0, 0))


if __name__ == "__main__":
    unittest.main()
