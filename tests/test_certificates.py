"""Points 77 to 81: certificates, their form, and when they are right."""

import copy
import random
import unittest

from helpers import draw_charter, draw_goal, draw_trusted, goal_met_by, walk
from whoevermay.certificates import certificate, check_certificate
from whoevermay.charters import Charter
from whoevermay.errors import InvalidCertificate, InvalidGoal, InvalidNotation, TooMany, UnknownName, WhoevermayError
from whoevermay.plans import check_plan
from whoevermay.reach import can_come, check_closed, closed_list

PAIR = Charter(rights=["a", "b"], founders=[("ann", ["a"])], rules=[("join", "j", []), ("give", "g", ["a"], [], [], "b")])
# Whoever has w can claim k; nobody has it.
CLAIM = Charter(rights=["k", "n", "w", "x"], founders=[("ann", ["n"]), ("bob", [])], rules=[("claim", "c", ["w"], [], "k")])
K = [(None, ["k"], [])]
RIGHT = "never\nmarking\nslot - : k :\nmarking\nslot - : w : k"
PLAN = "plan\ndo j new\ndo g ann new"
B = [(None, ["b"], [])]
LONG = "abcdefghijkl"


def slot_line(label, holds, lacks):
    word = {None: "-", "": "*"}.get(label, label)
    return " ".join(["slot", word, ":", *holds, ":", *lacks])


def never_text(markings):
    return "\n".join(["never", *[line for marking in markings for line in ["marking", *[slot_line(*slot) for slot in marking]]]])


class Form(unittest.TestCase):
    def assert_broken(self, number, *lines):
        for text in ("\n".join(lines), "\n".join([*lines, "slot"]), "\n".join([*lines, "", "never"])):
            with self.assertRaises(InvalidCertificate) as caught:
                check_certificate(CLAIM, K, text)
            self.assertEqual(caught.exception.line, number)
            self.assertIsInstance(caught.exception, WhoevermayError)
            self.assertIsInstance(caught.exception, ValueError)
            self.assertNotIsInstance(caught.exception, InvalidNotation)

    def assert_form(self, *lines):
        """The lines have a form: each of them may stand where it stands."""
        self.assertIsInstance(check_certificate(CLAIM, K, "\n".join(lines)), bool)
        self.assert_broken(len(lines) + 1, *lines, "none")

    def test_texts_of_the_form_never(self):
        self.assert_form("never")
        self.assert_form("never", "marking")
        self.assert_form("never", "marking", "marking", "marking")
        self.assert_form("never", "marking", "slot - : :")
        self.assert_form("never", "marking", "slot * : k : n", "slot ann : : w x", "marking", "slot - : k n : w")
        self.assert_form("never", "marking", "slot zoe : nil : none", "slot marking : slot : never")
        self.assert_form("never", "marking", f"slot {LONG} : {LONG} : {LONG}", "marking")
        self.assert_form("never", "marking", "slot - : k k k k k k k k : k k")

    def test_texts_of_the_form_plan(self):
        self.assert_form("plan")
        self.assert_form("plan", "do c ann")
        self.assert_form("plan", "do c ann bob", "do none zoe", "do none zoe yan", "do do do do")
        self.assert_form("plan", f"do {LONG} {LONG} {LONG}", "do c ann")

    def test_the_first_line(self):
        for line in ("", " ", "none", "never ", " never", "plan ", " plan", "never never", "plan plan", "never marking", "plan do c ann", "Never",
                     "PLAN", "marking", "slot - : :", "do c ann", "plan\t", "never\r", "nev", "plans"):
            self.assert_broken(1, line)
            self.assert_broken(1, line, "marking")
            self.assert_broken(1, line, "do c ann")

    def test_the_empty_string(self):
        with self.assertRaises(InvalidCertificate) as caught:
            check_certificate(CLAIM, K, "")
        self.assertEqual(caught.exception.line, 1)

    def test_a_slot_ahead_of_all_markings(self):
        self.assert_broken(2, "never", "slot - : :")
        self.assert_broken(2, "never", "slot ann : k :", "marking")

    def test_lines_of_no_form(self):
        for line in ("", " ", "none", "Marking", "marking ", " marking", "marking marking", "marking one", "marking slot", "marking -", "marking\t",
                     "slot", "slot ", "slot -", "slot - ", "slot - :", "slot - : ", "slot :", "slot : :", "slot : : :", "slot - : : :",
                     "slot - : k : n : w", "slot - :: ", "slot k n", "slot - k : n", "slot ann bob : :", "slot - - : :", "slot * - : :",
                     "slot  : :", "slot -  : :", "slot - :  :", "slot - : : ", " slot - : :", "slot  - : :", "slot - : k  n :", "slot - : k : n ",
                     "slot - :k :", "slot - : k:", "Slot - : :", "slot Ann : :", "slot ANN : :", "slot 1 : :", "slot -- : :", "slot ** : :",
                     "slot # : :", "slot a_b : :", f"slot {LONG}m : :", "slot - : K :", "slot - : 1 :", "slot - : - :", "slot - : * :",
                     f"slot - : {LONG}m :", "slot - : k a_b :", "slot - : : K", "slot - : : -", "slot - : : *", f"slot - : : {LONG}m",
                     "slot - : : n 9", "slot\t- : :", "slot - : :\t", "slot - : k : n\r", "do c ann", "do c ann bob", "never", "plan"):
            self.assert_broken(3, "never", "marking", line)
            self.assert_broken(4, "never", "marking", "slot - : k : n", line)
            self.assert_broken(5, "never", "marking", "slot - : k :", "marking", line)
            self.assert_broken(2, "never", line)

    def test_lines_of_no_action(self):
        for line in ("", " ", "do", "do ", "do c", "do c ", "do  c ann", "do c  ann", "do c ann ", " do c ann", "do c ann bob cid", "do c ann bob ",
                     "do c ann  bob", "c ann", "do c Ann", "do C ann", "DO c ann", "do c ann Bob", "do 1 ann", "do c 1", "do c ann 1",
                     f"do {LONG}m ann", f"do c {LONG}m", f"do c ann {LONG}m", "do c ann -", "do c -", "do c ann :", "do c a_b", "do\tc ann",
                     "do c ann\t", "do c ann\r", "marking", "slot - : :", "never", "plan", "do c ann none none"):
            self.assert_broken(2, "plan", line)
            self.assert_broken(3, "plan", "do c ann", line)
            self.assert_broken(4, "plan", "do c ann", "do c ann bob", line)

    def test_a_line_of_the_other_form(self):
        self.assert_broken(2, "plan", "marking")
        self.assert_broken(3, "plan", "do c ann", "slot - : :")
        self.assert_broken(2, "never", "do c ann")
        self.assert_broken(3, "never", "marking", "do c ann")

    def test_empty_lines(self):
        for number, text in [(1, "\nnever"), (1, "\nplan"), (2, "never\n"), (2, "plan\n"), (2, "never\n\nmarking"), (2, "plan\n\ndo c ann"),
                             (3, "never\nmarking\n"), (3, "plan\ndo c ann\n"), (1, "\n"), (1, "\n\n"), (3, "never\nmarking\n\nslot - : :")]:
            with self.assertRaises(InvalidCertificate) as caught:
                check_certificate(CLAIM, K, text)
            self.assertEqual(caught.exception.line, number)

    def test_two_faults(self):
        self.assert_broken(2, "never", "slot", "none")
        self.assert_broken(3, "plan", "do c ann", "do c", "do")
        self.assert_broken(1, "none", "none")
        self.assert_broken(4, "never", "marking", "slot - : :", "slot - :", "slot")

    def test_the_form_goes_ahead_of_strange_names(self):
        self.assert_broken(4, "never", "marking", "slot zoe : nil :", "slot -")
        self.assert_broken(3, "plan", "do none zoe", "do none")

    def test_the_errors_of_goal_and_trusted_founders_come_first(self):
        for text in ("", "none", RIGHT, PLAN, "plan\ndo"):
            with self.assertRaises(UnknownName) as caught:
                check_certificate(CLAIM, [("zoe", ["nil"], [])], text, trusted=["yan"])
            self.assertEqual(caught.exception.name, "zoe")
            with self.assertRaises(UnknownName) as caught:
                check_certificate(CLAIM, [("ann", [], ["nil"])], text, trusted=["yan"])
            self.assertEqual(caught.exception.name, "nil")
            for goal in ([], K * 4, [("ann", [], [])] * 2, [(None, ["k", "k"], [])]):
                with self.assertRaises(InvalidGoal):
                    check_certificate(CLAIM, goal, text, trusted=["yan"])
            with self.assertRaises(UnknownName) as caught:
                check_certificate(CLAIM, K, text, trusted=["ann", "yan", "xia"])
            self.assertEqual(caught.exception.name, "yan")


class Never(unittest.TestCase):
    def assert_right(self, is_right, charter, goal, text, trusted=()):
        self.assertIs(check_certificate(charter, goal, text, trusted=trusted), is_right, text)

    def test_certificates_that_are_right(self):
        self.assert_right(True, CLAIM, K, RIGHT)
        self.assert_right(True, CLAIM, K, "never\nmarking\nslot - : w : k\nmarking\nslot - : k :")
        self.assert_right(True, CLAIM, K, "never\nmarking\nslot - : k :\nmarking\nslot - : w :")
        self.assert_right(True, CLAIM, K, RIGHT + "\nmarking\nslot bob : n :")
        self.assert_right(True, CLAIM, [("ann", ["k"], [])], RIGHT)

    def test_certificates_that_are_not(self):
        self.assert_right(False, CLAIM, K, "never")
        self.assert_right(False, CLAIM, K, "never\nmarking")
        self.assert_right(False, CLAIM, K, RIGHT + "\nmarking")
        self.assert_right(False, CLAIM, K, "never\nmarking\nslot - : k :")
        self.assert_right(False, CLAIM, K, "never\nmarking\nslot - : w : k")
        self.assert_right(False, CLAIM, K, RIGHT + "\nmarking\nslot ann : n :")
        self.assert_right(False, CLAIM, K, RIGHT + "\nmarking\nslot - : : n\nslot - : n :")
        self.assert_right(False, CLAIM, K, "never\nmarking\nslot - : k : x\nmarking\nslot - : w : k")
        self.assert_right(False, CLAIM, [(None, ["n"], [])], "never\nmarking\nslot - : n :")
        self.assert_right(False, PAIR, [("ann", ["b"], [])], "never")

    def test_never_alone(self):
        sole = Charter(rights=["s", "t"], sole=["s", "t"], founders=[("ann", ["s"]), ("bob", [])], rules=[("pass", "p", [], [], [], "s")])
        self.assert_right(True, sole, [(None, ["s"], []), (None, ["s"], [])], "never")
        self.assert_right(True, sole, [(None, ["t"], [])], "never")
        self.assert_right(False, sole, [("bob", ["s"], [])], "never")

    def test_each_kind_of_label(self):
        teach = Charter(rights=["k", "w"], founders=[("ann", ["w"]), ("bob", [])], rules=[("give", "g", ["w"], [], [], "k")])
        goal = [("bob", ["k"], [])]
        for label, is_right in (("-", False), ("*", True), ("ann", False), ("bob", False)):
            self.assert_right(is_right, teach, goal, f"never\nmarking\nslot bob : k :\nmarking\nslot {label} : w :\nmarking\nslot bob : w : k",
                              ["ann"])
        self.assert_right(False, teach, goal, "never\nmarking\nslot bob : k :\nmarking\nslot * : w :\nmarking\nslot bob : w : k")
        # Somebody who may act lies above anybody, and not the other way round.
        self.assert_right(True, CLAIM, K, "never\nmarking\nslot - : k :\nmarking\nslot - : w : k", ["bob"])
        self.assert_right(True, CLAIM, K, "never\nmarking\nslot - : k :\nmarking\nslot * : w : k", ["bob"])
        self.assert_right(False, CLAIM, K, "never\nmarking\nslot * : k :\nmarking\nslot * : w : k", ["bob"])
        self.assert_right(False, CLAIM, K, "never\nmarking\nslot - : k :\nmarking\nslot * : w : k")
        self.assert_right(True, CLAIM, [("bob", ["k"], [])], "never\nmarking\nslot bob : k :", ["bob"])
        self.assert_right(False, CLAIM, [("bob", ["k"], [])], "never\nmarking\nslot ann : k :\nmarking\nslot ann : w : k", ["bob"])

    def test_rights_in_another_order_and_twice(self):
        charter = Charter(rights=["k", "n", "w", "x"], founders=[("ann", ["n"])], rules=[("claim", "c", ["w", "n"], ["x"], "k")])
        self.assert_right(True, charter, K, "never\nmarking\nslot - : k :\nmarking\nslot - : w n : x k")
        self.assert_right(True, charter, K, "never\nmarking\nslot - : k k :\nmarking\nslot - : n w n n w : k x k x")
        self.assert_right(True, charter, K, "never\nmarking\nslot - : k :\nmarking\nslot - : n w : k x")
        self.assert_right(False, charter, K, "never\nmarking\nslot - : k :\nmarking\nslot - : n n : k x")

    def test_a_marking_twice(self):
        self.assert_right(True, CLAIM, K, RIGHT + RIGHT[5:])
        self.assert_right(False, CLAIM, K, "never\nmarking\nslot - : k :\nmarking\nslot - : k :")

    def test_a_slot_twice_is_two_people(self):
        self.assert_right(False, CLAIM, K, "never\nmarking\nslot - : k :\nslot - : k :\nmarking\nslot - : w : k")
        self.assert_right(True, CLAIM, K * 2, RIGHT)

    def test_an_impossible_marking(self):
        self.assert_right(True, CLAIM, K, RIGHT + "\nmarking\nslot ann : n : n")
        self.assert_right(False, CLAIM, K, "never\nmarking\nslot - : k : k")

    def test_strange_names(self):
        for slot in ("slot - : nil :", "slot - : : nil", "slot zoe : :", "slot zoe : k :", "slot - : k nil :", "slot - : n : n nil",
                     "slot ann : nil : n", "slot c : k :", "slot - : c :", "slot k : k :", "slot - : ann :", "slot * : zoe :", "slot zoe : nil : none"):
            self.assert_right(False, CLAIM, K, f"{RIGHT}\nmarking\n{slot}")
            self.assert_right(False, CLAIM, K, f"{RIGHT}\n{slot}")
            self.assert_right(False, CLAIM, K, f"never\nmarking\n{slot}{RIGHT[5:]}")
            self.assert_right(False, CLAIM, K, f"never\nmarking\nslot bob : n :\n{slot}{RIGHT[5:]}")
            # Also in a marking that would be left out as an impossible one.
            self.assert_right(False, CLAIM, K, f"{RIGHT}\nmarking\nslot - : n : n\n{slot}")

    def test_the_same_that_check_closed_says(self):
        found = []
        for seed in range(200):
            rng = random.Random(seed)
            charter = draw_charter(rng, rights=(2, 3), rules=(1, 5), share=rng.choice([0.1, 0.4, 0.5]))
            goal, trusted = draw_goal(rng, charter), draw_trusted(rng, charter)
            markings = closed_list(charter, goal, trusted=trusted) or []
            if markings and rng.random() < 0.5:
                markings.pop(rng.randrange(len(markings)))
            text = never_text(markings)
            found.append(check_certificate(charter, goal, text, trusted=trusted))
            self.assertIs(found[-1], check_closed(charter, goal, markings, trusted=trusted))
        self.assertGreater(found.count(True), 30)
        self.assertGreater(found.count(False), 30)


class Plans(unittest.TestCase):
    def assert_right(self, is_right, goal, text, trusted=(), charter=PAIR):
        self.assertIs(check_certificate(charter, goal, text, trusted=trusted), is_right, text)

    def test_plans(self):
        self.assert_right(True, B, PLAN)
        self.assert_right(True, B, PLAN + "\ndo j other\ndo g ann other")
        self.assert_right(True, B * 2, "plan\ndo j one\ndo j two\ndo g ann two\ndo g ann one")
        self.assert_right(False, B, "plan\ndo g ann new\ndo j new")
        self.assert_right(False, B, "plan\ndo j new")
        self.assert_right(False, [("ann", ["b"], [])], PLAN)
        self.assert_right(False, B * 2, PLAN)

    def test_a_plan_without_actions(self):
        self.assert_right(True, [("ann", ["a"], [])], "plan")
        self.assert_right(False, B, "plan")
        self.assert_right(True, [(None, [], ["b"])], "plan", ["ann"])

    def test_targets_too_many_and_missing(self):
        self.assert_right(False, B, "plan\ndo j new ann\ndo g ann new")
        self.assert_right(False, B, "plan\ndo j new\ndo g ann")
        claim = PAIR.with_rule(("claim", "c", ["a"], [], "b"))
        self.assert_right(True, B, "plan\ndo c ann", charter=claim)
        self.assert_right(False, B, "plan\ndo c ann ann", charter=claim)
        self.assert_right(False, B, "plan\ndo j new\ndo c ann new", charter=claim)

    def test_trusted_founders(self):
        self.assert_right(False, B, PLAN, ["ann"])
        both = PAIR.with_founder("bob", ["a"])
        self.assert_right(True, B, PLAN, ["bob"], both)
        self.assert_right(True, B, "plan\ndo g ann bob", ["bob"], both)
        self.assert_right(False, B, "plan\ndo g bob ann", ["bob"], both)

    def test_strange_rules_and_people(self):
        for line in ("do none ann", "do none ann new", "do g zoe new", "do g ann zoe", "do g zoe yan", "do j ann", "do a ann", "do g b new"):
            self.assert_right(False, B, f"{PLAN}\n{line}")
            self.assert_right(False, B, f"plan\n{line}\ndo j new\ndo g ann new")

    def test_the_same_that_check_plan_says(self):
        found = []
        for seed in range(150):
            rng = random.Random(seed)
            charter = draw_charter(rng)
            trusted = draw_trusted(rng, charter)
            actions, office = walk(rng, charter, trusted, 8)
            goal = goal_met_by(rng, office) or draw_goal(rng, charter)
            if actions and rng.random() < 0.4:
                actions.pop(rng.randrange(len(actions)))
            text = "\n".join(["plan", *[" ".join(["do", *[word for word in action if word is not None]]) for action in actions]])
            found.append(check_certificate(charter, goal, text, trusted=trusted))
            self.assertIs(found[-1], check_plan(charter, goal, actions, trusted=trusted))
        self.assertGreater(found.count(True), 30)
        self.assertGreater(found.count(False), 15)


class Certificates(unittest.TestCase):
    def test_the_example(self):
        self.assertEqual(certificate(PAIR, [("ann", ["b"], [])]).split("\n")[0], "never")
        self.assertIs(check_certificate(PAIR, [("ann", ["b"], [])], "never"), False)
        self.assertIs(check_certificate(PAIR, B, PLAN), True)
        with self.assertRaises(InvalidCertificate):
            check_certificate(PAIR, B, "plan\nslot - : :")

    def test_a_plan(self):
        actions = can_come(PAIR, B).actions
        lines = certificate(PAIR, B).split("\n")
        self.assertEqual(lines, ["plan", *[" ".join(["do", *[word for word in action if word]]) for action in actions]])
        self.assertEqual(len(lines), 3)
        self.assertEqual(certificate(PAIR, [("ann", ["a"], [])]), "plan")

    def test_a_list_of_markings(self):
        self.assertEqual(certificate(CLAIM, K), never_text(closed_list(CLAIM, K)))
        self.assertEqual(certificate(CLAIM, K), RIGHT)
        sole = Charter(rights=["s"], sole=["s"])
        self.assertEqual(certificate(sole, [(None, ["s"], [])]), "never")

    def test_each_kind_of_label(self):
        lines = certificate(CLAIM, K, trusted=["bob"]).split("\n")
        self.assertEqual(lines, ["never", "marking", "slot - : k :", "marking", "slot * : w : k"])
        lines = certificate(CLAIM, [("ann", ["k", "x"], ["n"])]).split("\n")
        self.assertEqual(lines, ["never", "marking", "slot ann : k x : n", "marking", "slot ann : w x : k n"])

    def test_errors(self):
        with self.assertRaises(UnknownName) as caught:
            certificate(CLAIM, [("zoe", [], [])], trusted=["yan"], limit=1)
        self.assertEqual(caught.exception.name, "zoe")
        with self.assertRaises(InvalidGoal):
            certificate(CLAIM, [], trusted=["yan"], limit=1)
        with self.assertRaises(UnknownName) as caught:
            certificate(CLAIM, K, trusted=["ann", "yan"], limit=1)
        self.assertEqual(caught.exception.name, "yan")
        for charter, goal in ((CLAIM, K), (PAIR, B)):
            with self.assertRaises(TooMany) as caught:
                certificate(charter, goal, limit=1)
            self.assertEqual(caught.exception.limit, 1)
        self.assertEqual(certificate(CLAIM, K, limit=2), RIGHT)
        self.assertEqual(certificate(CLAIM, [("ann", ["n"], [])], limit=1), "plan")

    def test_certificates_of_drawn_goals_are_right(self):
        found = []
        for seed in range(400):
            rng = random.Random(seed)
            charter = draw_charter(rng)
            trusted = draw_trusted(rng, charter)
            goal = draw_goal(rng, charter)
            if seed % 3 == 0:
                goal = goal_met_by(rng, walk(rng, charter, trusted, 6)[1]) or goal
            text = certificate(charter, goal, trusted=trusted)
            self.assertIs(check_certificate(charter, goal, text, trusted=trusted), True)
            plan = can_come(charter, goal, trusted=trusted)
            self.assertEqual(text.split("\n")[0], "never" if plan is None else "plan")
            if plan is None:
                self.assertEqual(text, never_text(closed_list(charter, goal, trusted=trusted)))
                # No plan is right for it.
                actions, _ = walk(rng, charter, trusted, 6)
                lines = [" ".join(["do", *[word for word in action if word]]) for action in actions]
                self.assertIs(check_certificate(charter, goal, "\n".join(["plan", *lines]), trusted=trusted), False)
            else:
                self.assertIs(check_certificate(charter, goal, "never", trusted=trusted), False)
            found.append((text.split("\n")[0], bool(trusted), min(len(text.split("\n")), 4)))
        for word, some in (("never", True), ("never", False), ("plan", True), ("plan", False)):
            for lines in (1, 4):
                self.assertGreater(found.count((word, some, lines)), 3)

    def test_what_is_handed_in_stays_as_it_was(self):
        goal, trusted = [(None, ["k"], ["n"]), ("ann", [], [])], ["bob"]
        before = copy.deepcopy((goal, trusted, vars(CLAIM)))
        text = certificate(CLAIM, goal, trusted=trusted)
        check_certificate(CLAIM, goal, text, trusted=trusted)
        check_certificate(CLAIM, goal, "plan\ndo c ann", trusted=trusted)
        self.assertEqual((goal, trusted, vars(CLAIM)), before)


if __name__ == "__main__":
    unittest.main()
