"""Point 1 over the whole program: nothing that is passed is modified, what is kept is copied, and numbers are integers."""

import copy
import inspect
import unittest

from whoevermay import amendments, bench, certificates, commands, crowds, histories, ledgers, notation, organisations, plans, questions
from whoevermay import reach, roles, session
from whoevermay.charters import Charter
from whoevermay.errors import TooMany

RULES = [["join", "enter", ["member"]], ["give", "teach", ["key"], ["member"], [], "key"], ["claim", "sign", ["key"], [], "seal"]]
FOUNDERS = [["ann", ["key"]], ["bob", ["member"]]]


def charter_of():
    return Charter(rights=["member", "key", "seal"], founders=FOUNDERS, rules=RULES)


GOAL = [(None, ["seal", "member"], []), ("ann", ["key"], ["member"])]
ACTIONS = [("enter", "cid", None), ("teach", "ann", "cid"), ("sign", "cid", None)]
TRUSTED = ["bob", "bob"]
MARKINGS = [((None, ("key",), ()), ("", ("member", "seal"), ("key",))), ()]


def told(thing):
    """A value of the program and all that is in it, in lists and tuples."""
    if isinstance(thing, (list, tuple)):
        return (type(thing).__name__, [told(part) for part in thing])
    if thing is None or isinstance(thing, (str, int)):
        return thing
    if isinstance(thing, dict):
        return [(told(key), told(part)) for key, part in thing.items()]
    return (type(thing).__name__, [(name, told(part)) for name, part in sorted(vars(thing).items())])


def numbers_of(thing):
    if isinstance(thing, (list, tuple)):
        return [number for part in thing for number in numbers_of(part)]
    return [] if thing is None or isinstance(thing, str) else [thing]


class Searches(unittest.TestCase):
    # Each function of a goal and trusted founders, with what stands between them, and how often a number is in its answer.
    CALLS = [(reach.can_come, [GOAL], True), (reach.fewest_steps, [GOAL], True), (reach.closed_list, [GOAL], True),
             (reach.check_closed, [GOAL, MARKINGS], True), (questions.who_can, ["key"], True), (questions.together, [], True),
             (questions.reachable_types, [], True), (questions.needed_rules, [GOAL], True), (questions.cuts, [GOAL], True),
             (questions.trust_cuts, [GOAL], True), (questions.idle_rules, [], False), (crowds.most_at_once, ["key"], True),
             (crowds.needed_founders, [GOAL], True), (crowds.least_steps, [[GOAL, GOAL[1:]]], True), (plans.check_plan, [GOAL, ACTIONS], True),
             (plans.shortened, [GOAL, ACTIONS], False), (plans.steps_of, [ACTIONS], False), (plans.taking_part, [ACTIONS], False),
             (plans.joins_first, [ACTIONS], False), (bench.decide, [GOAL], True), (certificates.certificate, [GOAL], True),
             (certificates.check_certificate, [GOAL, "plan\ndo enter cid"], True), (amendments.opened_by, [["join", "new", ["seal"]]], True),
             (amendments.closed_by, ["sign"], True), (roles.all_roles, [], False), (roles.roles, [], True), (roles.missing_roles, [], True),
             (roles.role_plan, [["seal", "key"]], True), (roles.strange_role, [[["key", "member"], []]], True),
             (organisations.check_goal, [GOAL], False), (organisations.run, [ACTIONS], True), (histories.History, [ACTIONS], True),
             (notation.format_charter, [], False)]

    def test_nothing_that_is_passed_is_modified(self):
        for function, rest, takes_trusted in self.CALLS:
            charter = charter_of()
            rest, trusted = copy.deepcopy(rest), copy.deepcopy(TRUSTED)
            before = told([charter, rest, trusted])
            more = {"trusted": trusted} if takes_trusted else {}
            first = told(function(charter, *rest, **more))
            self.assertEqual(told([charter, rest, trusted]), before, function)
            self.assertEqual(told(function(charter, *rest, **more)), first, function)

    def test_lists_that_are_returned_are_new(self):
        for function, rest, takes_trusted in self.CALLS:
            charter = charter_of()
            more = {"trusted": TRUSTED} if takes_trusted else {}
            answer = function(charter, *rest, **more)
            if isinstance(answer, list):
                before = copy.deepcopy(answer)
                answer.clear()
                self.assertEqual(function(charter, *rest, **more), before)
                self.assertEqual(told(rest), told(copy.deepcopy(rest)))

    def test_tuples_are_taken_as_lists_are(self):
        def frozen(thing):
            return tuple(frozen(part) for part in thing) if isinstance(thing, (list, tuple)) else thing

        for function, rest, takes_trusted in self.CALLS:
            if function in (histories.History, organisations.run):
                continue
            more = {"trusted": TRUSTED} if takes_trusted else {}
            other = {"trusted": tuple(TRUSTED)} if takes_trusted else {}
            self.assertEqual(told(function(charter_of(), *rest, **more)), told(function(charter_of(), *frozen(rest), **other)), function)

    def test_all_numbers_are_integers(self):
        charter = charter_of()
        found = [reach.fewest_steps(charter, GOAL), reach.can_come(charter, GOAL).steps, crowds.most_at_once(charter, "key"),
                 crowds.least_steps(charter, [GOAL]), plans.steps_of(charter, ACTIONS), bench.decide(charter, GOAL), roles.roles(charter),
                 roles.strange_role(charter, []), histories.History(charter, ACTIONS).length(), histories.History(charter, ACTIONS).spans("cid", "key"),
                 histories.History(charter, ACTIONS).joined(), histories.History(charter, ACTIONS).first_moment(GOAL),
                 organisations.run(charter, ACTIONS).count]
        ledger = ledgers.Ledger([("key", "ann")])
        found += [ledger.grant("ann", "bob", "key"), ledger.standing(), ledger.chains("bob", "key"), ledger.take_back(0), ledger.taken_back, ledger.restore(0)]
        desk = session.Session().bench
        desk.set_charter("club", charter)
        desk.ask("q", charter="club", goal=GOAL)
        found += [desk.answers(), desk.decided, desk.kept, bench.decide(charter, GOAL, limit=1)]
        self.assertGreater(len(numbers_of(found)), 20)
        for number in numbers_of(found):
            self.assertIs(type(number), int)

    def test_the_limit_is_2000_if_nothing_else_is_said(self):
        found = []
        for module in (amendments, bench, certificates, crowds, questions, reach, roles):
            for name, function in inspect.getmembers(module, inspect.isfunction):
                limit = inspect.signature(function).parameters.get("limit")
                if limit is not None and limit.kind is inspect.Parameter.KEYWORD_ONLY:
                    self.assertEqual(limit.default, 2000, name)
                    found.append(name)
        self.assertGreaterEqual(len(set(found)), 22)

    def test_a_limit_above_2000(self):
        # More than 2000 markings are needed to show that no two people come to all rights.
        rules = [("give", f"g{at}x{step}", ["abcdef"[(at + step) % 6]], [], [], "abcdef"[at]) for at in range(6) for step in (1, 2)]
        wheel = Charter(rights="abcdef", founders=[("ann", [])], rules=rules)
        goal = [(None, "abcdef", [])] * 2
        for limit in (2000, 2050):
            with self.assertRaises(TooMany) as caught:
                certificates.certificate(wheel, goal, limit=limit)
            self.assertEqual(caught.exception.limit, limit)
        text = certificates.certificate(wheel, goal, limit=3000)
        self.assertEqual(text.split("\n")[0], "never")
        self.assertIs(certificates.check_certificate(wheel, goal, text), True)
        self.assertEqual(bench.decide(wheel, goal, limit=3000), ("never",))

    def test_every_public_function_of_a_charter_is_among_the_calls(self):
        asked = [function for function, _, _ in self.CALLS]
        for module in (amendments, certificates, crowds, plans, questions, reach, roles):
            for name, function in inspect.getmembers(module, inspect.isfunction):
                takes = list(inspect.signature(function).parameters)
                if function.__module__ == module.__name__ and not name.startswith("_") and takes[0] == "charter" and "limit" in takes:
                    if inspect.signature(function).parameters["limit"].kind is inspect.Parameter.KEYWORD_ONLY:
                        self.assertIn(function, asked)


class Kept(unittest.TestCase):
    def test_lists_that_are_passed_are_copied(self):
        rights, sole, founders, rules = ["a", "b"], ["b"], [["ann", ["a", "b"]]], [["claim", "c", [], ["b"], "a"]]
        charter = Charter(rights=rights, sole=sole, founders=founders, rules=rules)
        trusted, actions, owners = ["ann"], [], [["key", "ann"]]
        kept = [charter, organisations.Organisation(charter, trusted=trusted), histories.History(charter, actions, trusted=trusted),
                reach.Plan(actions, 0), ledgers.Ledger(owners)]
        before = told(kept)
        for rows in (founders[0][1], founders[0], rules[0][3], rules[0], rights, sole, founders, rules, trusted, owners[0], owners):
            rows.clear()
        actions.append(("c", "ann", None))
        self.assertEqual(told(kept), before)

    def test_a_workbench_and_a_session_keep_their_own(self):
        one, other = session.Session(), session.Session()
        one.run("charter club\nrights a\nsole\ndone")
        self.assertEqual((one.bench.charter_names(), other.bench.charter_names()), (["club"], []))

    def test_words_stay_as_they_were(self):
        for words in (["ask", "q", "club", "ann", "with", "a", "trusting", "bob"], ["undo"], ["none", "none"]):
            before = list(words)
            commands.is_command(words)
            commands.goal_of(words)
            self.assertEqual(words, before)


if __name__ == "__main__":
    unittest.main()
