"""Points 31 to 38: markings, ways back, and lists that show that a goal is never reached."""

import random
import unittest

from helpers import Words, draw_charter, draw_goal, draw_trusted, part_of, split_of
from whoevermay.charters import Charter
from whoevermay.reach import can_come, check_closed, closed_list


def slot(label=None, holds="", lacks=""):
    """A slot of rights with names of one letter."""
    return (label, tuple(holds), tuple(lacks))


def charter_of(*founders, rules=(), sole=()):
    """A charter of the rights k, n, s, w, x whose founders hold rights that are given as strings."""
    return Charter(rights="knswx", sole=sole, founders=[(name, list(held)) for name, held in founders], rules=rules)


class Closed(unittest.TestCase):
    def assert_shows(self, shows, charter, goal, markings, trusted=()):
        """What check_closed says, in whatever order; the words of the document, taken by hand, say the same."""
        rows = [tuple(marking) for marking in markings]
        self.assertIs(check_closed(charter, goal, rows, trusted=trusted), shows)
        self.assertIs(check_closed(charter, goal, [row[::-1] for row in rows[::-1]], trusted=trusted), shows)
        self.assertIs(check_closed(charter, goal, rows + rows, trusted=trusted), shows)
        self.assertIs(Words(charter, trusted).shows(goal, rows), shows)


class Conditions(Closed):
    """The three conditions of point 37."""

    charter = charter_of(("ann", "n"), ("bob", ""), rules=[("claim", "c", "w", "", "k")])
    goal = [(None, ["k"], [])]

    def test_a_list_that_shows_it(self):
        self.assert_shows(True, self.charter, self.goal, [[slot(None, "k")], [slot(None, "w", "k")]])

    def test_a_marking_that_the_founders_meet(self):
        right = [[slot(None, "k")], [slot(None, "w", "k")]]
        self.assert_shows(False, self.charter, self.goal, [*right, [slot("ann", "n", "k")]])
        self.assert_shows(False, self.charter, self.goal, [*right, [slot(None, "n"), slot(None, "", "n")]])
        self.assert_shows(False, self.charter, self.goal, [*right, [slot("", "n")]])
        self.assert_shows(False, self.charter, self.goal, [*right, []])
        self.assert_shows(True, self.charter, self.goal, [*right, [slot(None, "n"), slot("ann", "n")]])
        self.assert_shows(True, self.charter, self.goal, [*right, [slot("bob", "n")]])
        self.assert_shows(True, self.charter, self.goal, [*right, [slot(None, "x"), slot(None, "n")]])

    def test_no_marking_below_the_marking_of_the_goal(self):
        self.assert_shows(False, self.charter, self.goal, [])
        self.assert_shows(False, self.charter, self.goal, [[slot(None, "w", "k")]])
        self.assert_shows(False, self.charter, self.goal, [[slot(None, "kx")], [slot(None, "w", "k")]])
        self.assert_shows(False, self.charter, self.goal, [[slot(None, "k", "x")], [slot(None, "w", "k")]])
        self.assert_shows(False, self.charter, self.goal, [[slot("ann", "k")], [slot("ann", "w", "k")]])
        self.assert_shows(False, self.charter, self.goal, [[slot("", "k")], [slot("", "w", "k")]])
        self.assert_shows(False, self.charter, self.goal, [[slot(None, "k")] * 2, [slot(None, "w", "k"), slot(None, "k")]])
        self.assert_shows(True, self.charter, self.goal * 2, [[slot(None, "k")], [slot(None, "w", "k")]])

    def test_a_way_back_that_nothing_lies_below(self):
        self.assert_shows(False, self.charter, self.goal, [[slot(None, "k")]])
        self.assert_shows(False, self.charter, self.goal, [[slot(None, "k")], [slot(None, "wx", "k")]])
        self.assert_shows(False, self.charter, self.goal, [[slot(None, "k")], [slot(None, "w", "kx")]])
        self.assert_shows(True, self.charter, self.goal, [[slot(None, "k")], [slot(None, "w")]])

    def test_the_empty_list_and_impossible_goals(self):
        charter = charter_of(("ann", "s"), rules=[("pass", "p", "", "", "", "s"), ("join", "j", "x")], sole="ks")
        for goal in [[(None, ["s"], []), (None, ["s"], [])], [(None, ["k"], [])], [(None, ["x"], []), ("ann", ["k", "n"], [])]]:
            self.assert_shows(True, charter, goal, [])
            self.assert_shows(True, charter, goal, [[slot(None, "k")]])
            self.assert_shows(False, charter, goal, [[slot(None, "s")]])
            self.assertEqual(closed_list(charter, goal), [])
        self.assert_shows(False, charter, [(None, ["s"], [])], [])
        self.assert_shows(False, charter, [(None, ["x"], [])], [])

    def test_a_goal_that_is_reached_is_never_shown(self):
        charter = charter_of(("ann", "w"), rules=[("claim", "c", "w", "", "k")])
        for markings in ([], [[slot(None, "k")]], [[slot(None, "k")], [slot(None, "w", "k")]], [[slot(None, "k")], [slot(None, "wx")]]):
            self.assert_shows(False, charter, [(None, ["k"], [])], markings)

    def test_the_rights_of_a_slot_in_any_order(self):
        charter = charter_of(("ann", "n"), rules=[("claim", "c", "wx", "", "k")])
        self.assert_shows(True, charter, self.goal, [[slot(None, "k")], [slot(None, "xw", "k")]])

    def test_the_example(self):
        charter = Charter(rights=["key"], founders=[("ann", [])], rules=[("give", "teach", ["key"], [], [], "key")])
        self.assertIs(check_closed(charter, [(None, ["key"], [])], [((None, ("key",), ()),)]), True)


class WaysBack(Closed):
    """Point 36: each form of way back, for each kind of rule."""

    def assert_all_needed(self, charter, goal, markings, trusted=()):
        """The list shows it, and without any of its markings it does not."""
        self.assert_shows(True, charter, goal, markings, trusted)
        for at in range(len(markings)):
            self.assert_shows(False, charter, goal, markings[:at] + markings[at + 1:], trusted)

    def test_claim(self):
        charter = charter_of(("ann", "nx"), rules=[("claim", "c", "n", "x", "k")])
        self.assert_all_needed(charter, [("ann", ["k"], [])], [[slot("ann", "k")], [slot("ann", "n", "kx")]])
        self.assert_all_needed(charter, [("ann", ["k", "w"], [])], [[slot("ann", "kw")], [slot("ann", "nw", "kx")]])
        # What is asked for besides contradicts the rule: there is no way back.
        self.assert_all_needed(charter, [("ann", ["k", "x"], [])], [[slot("ann", "kx")]])
        self.assert_all_needed(charter, [("ann", ["k"], ["n"])], [[slot("ann", "k", "n")]])
        # A slot that lacks the right is no slot of who has just claimed it.
        self.assert_all_needed(charter, [("ann", ["w"], ["k"])], [[slot("ann", "w", "k")]])

    def test_drop(self):
        charter = charter_of(("ann", "kx"), rules=[("drop", "d", "n", "x", "k")])
        self.assert_all_needed(charter, [("ann", [], ["k"])], [[slot("ann", "", "k")], [slot("ann", "nk", "x")]])
        self.assert_all_needed(charter, [("ann", [], ["k", "w"])], [[slot("ann", "", "kw")], [slot("ann", "nk", "xw")]])
        self.assert_all_needed(charter, [("ann", [], ["k", "n"])], [[slot("ann", "", "kn")]])
        self.assert_all_needed(charter, [("ann", ["k", "w"], [])], [[slot("ann", "kw")]])

    def test_give(self):
        charter = charter_of(("ann", "w"), ("bob", "w"), rules=[("give", "g", "n", "w", "x", "k")])
        self.assert_all_needed(charter, [("ann", ["k"], []), ("bob", ["w"], [])],
                               [[slot("ann", "k"), slot("bob", "w")],
                                [slot("ann", "w", "kx"), slot("bob", "wn")],
                                [slot("ann", "w", "kx"), slot("bob", "w"), slot(None, "n")]])
        self.assert_all_needed(charter, [("ann", ["k"], ["w"])], [[slot("ann", "k", "w")]])
        self.assert_all_needed(charter, [("ann", ["n"], ["k"])], [[slot("ann", "n", "k")]])

    def test_take(self):
        charter = charter_of(("ann", "wk"), ("bob", "w"), rules=[("take", "t", "n", "w", "x", "k")])
        self.assert_all_needed(charter, [("ann", [], ["k"]), ("bob", ["w"], [])],
                               [[slot("ann", "", "k"), slot("bob", "w")],
                                [slot("ann", "wk", "x"), slot("bob", "wn")],
                                [slot("ann", "wk", "x"), slot("bob", "w"), slot(None, "n")]])
        self.assert_all_needed(charter, [("ann", [], ["k", "w"])], [[slot("ann", "", "kw")]])
        self.assert_all_needed(charter, [("ann", ["n", "k"], [])], [[slot("ann", "nk")]])

    def test_pass_with_a_slot_of_the_target(self):
        charter = charter_of(("ann", "w"), ("bob", "w"), ("cid", "s"), rules=[("pass", "p", "n", "w", "x", "s")], sole="s")
        self.assert_all_needed(charter, [("ann", ["s"], []), ("bob", ["w"], [])],
                               [[slot("ann", "s"), slot("bob", "w")],
                                [slot("ann", "w", "sx"), slot("bob", "wns")],
                                [slot("ann", "w", "sx"), slot("bob", "w"), slot(None, "ns")]])
        # Who is to lack the right may have handed it over.
        self.assert_all_needed(charter, [("ann", ["s"], []), ("bob", [], ["s"])],
                               [[slot("ann", "s"), slot("bob", "", "s")],
                                [slot("ann", "w", "sx"), slot("bob", "ns")],
                                [slot("ann", "w", "sx"), slot("bob", "", "s"), slot(None, "ns")]])

    def test_pass_without_a_slot_of_the_target(self):
        charter = charter_of(("ann", "s"), ("bob", "w"), rules=[("pass", "p", "n", "w", "x", "s")], sole="s")
        self.assert_all_needed(charter, [("ann", [], ["s"])],
                               [[slot("ann", "", "s")], [slot("ann", "ns"), slot(None, "w", "sx")]])
        self.assert_all_needed(charter, [("ann", [], ["s"]), ("bob", [], ["x"])],
                               [[slot("ann", "", "s"), slot("bob", "", "x")],
                                [slot("ann", "ns"), slot("bob", "w", "sx")],
                                [slot("ann", "ns"), slot("bob", "", "x"), slot(None, "w", "sx")]])
        self.assert_all_needed(charter, [("ann", [], ["s", "n"])], [[slot("ann", "", "sn")]])

    def test_joins_have_no_ways_back(self):
        charter = charter_of(("ann", ""), rules=[("join", "j", "kn")])
        self.assert_all_needed(charter, [("ann", ["k"], [])], [[slot("ann", "k")]])
        self.assert_all_needed(charter, [(None, ["k", "w"], [])], [[slot(None, "kw")]])

    def test_impossible_ways_back_are_left_out(self):
        rules = [("give", "g", "s", "", "", "k"), ("take", "t", "x", "", "", "n")]
        charter = charter_of(("ann", "s"), ("bob", "n"), rules=rules, sole="sx")
        # Nobody but who holds s can give k, and nobody ever holds x.
        self.assert_all_needed(charter, [("ann", ["s", "k"], [])], [[slot("ann", "sk")]])
        self.assert_all_needed(charter, [("bob", [], ["n"])], [[slot("bob", "", "n")]])


class Labels(Closed):
    rules = [("claim", "c", "n", "", "k"), ("give", "g", "n", "", "", "k")]
    charter = charter_of(("ann", ""), ("tom", "n"), rules=rules)

    def test_who_is_trusted_does_not_act(self):
        goal = [(None, ["k"], [])]
        right = [[slot(None, "k")], [slot("", "n")]]
        self.assert_shows(True, self.charter, goal, right, ["tom"])
        self.assert_shows(False, self.charter, goal, right)
        self.assert_shows(False, self.charter, goal, right, ["ann"])
        # An actor's slot has the empty label, and asks for no more than that.
        self.assert_shows(False, self.charter, goal, [[slot(None, "k")], [slot(None, "n")]], ["tom"])
        self.assert_shows(False, self.charter, goal, [[slot(None, "k")], [slot("ann", "n")]], ["tom"])

    def test_a_slot_with_the_name_of_who_is_trusted_has_no_actors_slot(self):
        charter = charter_of(("ann", ""), ("tom", "n"), rules=self.rules[:1])
        self.assert_shows(True, charter, [("tom", ["k"], [])], [[slot("tom", "k")]], ["tom"])
        self.assert_shows(False, charter, [("tom", ["k"], [])], [[slot("tom", "k")]])
        self.assert_shows(False, charter, [("tom", ["k"], [])], [[slot("tom", "k")]], ["ann"])
        # A target's slot may have it.
        self.assert_shows(False, self.charter, [("tom", ["k"], [])], [[slot("tom", "k")]], ["tom"])
        self.assert_shows(True, self.charter, [("tom", ["k"], [])], [[slot("tom", "k")], [slot("tom", "", "k"), slot("", "n")]],
                          ["tom"])

    def test_new_actors(self):
        charter = charter_of(("ann", ""), ("bob", ""), rules=self.rules[1:])
        goal = [("bob", ["k"], [])]
        for trusted, label in (([], None), (["ann"], "")):
            self.assert_shows(True, charter, goal, [[slot("bob", "k")], [slot("bob", "", "k"), slot(label, "n")]], trusted)
        self.assert_shows(False, charter, goal, [[slot("bob", "k")], [slot("bob", "", "k"), slot("", "n")]])

    def test_new_targets_have_no_label(self):
        charter = charter_of(("ann", "s"), ("tom", ""), rules=[("pass", "p", "n", "w", "", "s")], sole="s")
        goal = [("ann", [], ["s"])]
        self.assert_shows(True, charter, goal, [[slot("ann", "", "s")], [slot("ann", "ns"), slot(None, "w", "s")]], ["tom"])
        self.assert_shows(False, charter, goal, [[slot("ann", "", "s")], [slot("ann", "ns"), slot("", "w", "s")]], ["tom"])

    def test_labels_below_labels(self):
        charter = charter_of(("ann", ""), ("bob", ""), ("tom", ""))
        below = {(None, None), (None, ""), (None, "ann"), (None, "tom"), ("", ""), ("", "ann"), ("ann", "ann"), ("tom", "tom")}
        for low in (None, "", "ann", "tom"):
            for high in (None, "ann", "tom"):
                for trusted in ([], ["tom"], ["bob"], ["bob", "tom"]):
                    shows = (low, high) in below or (low, high) == ("", "tom") and "tom" not in trusted
                    self.assert_shows(shows, charter, [(high, ["k"], [])], [[slot(low, "k")]], trusted)

    def test_who_stands_for_a_label(self):
        charter = charter_of(("ann", "k"), ("tom", "k"))
        goal = [(None, ["x"], [])]
        for label, trusted, stands in [(None, ["ann", "tom"], True), ("", ["ann", "tom"], False), ("", ["ann"], True),
                                       ("", [], True), ("ann", ["ann"], True), ("ann", ["tom"], True)]:
            self.assert_shows(not stands, charter, goal, [[slot(None, "x")], [slot(label, "k")]], trusted)
        for labels, trusted, stand in [(("ann", ""), ["tom"], False), (("ann", ""), ["ann"], True), (("tom", None), ["tom"], True),
                                       (("", ""), ["tom"], False), (("", None), ["tom"], True), (("ann", "ann"), [], False),
                                       ((None, None, None), [], False), (("", ""), [], True)]:
            self.assert_shows(not stand, charter, goal, [[slot(None, "x")], [slot(label, "k") for label in labels]], trusted)


class Cleaning(Closed):
    def test_slots_of_joiners_are_left_out(self):
        charter = charter_of(("ann", ""), rules=[("join", "j", "nw"), ("join", "i", "x")])
        goal = [("ann", ["k"], [])]
        for extra in ([], [slot(None, "n", "k")], [slot("", "nw", "kx")], [slot()], [slot(None, "x", "n"), slot("", "w")]):
            self.assert_shows(True, charter, goal, [[slot("ann", "k"), *extra]])
            self.assert_shows(True, charter, goal, [[slot("ann", "k"), *extra]], ["ann"])
        for extra in ([slot(None, "n", "w")], [slot(None, "nx")], [slot(None, "", "nx")], [slot("ann", "n")]):
            self.assert_shows(False, charter, goal, [[slot("ann", "k"), *extra]])

    def test_a_marking_of_joiners_alone_is_met(self):
        charter = charter_of(("ann", ""), rules=[("join", "j", "n")])
        goal = [("ann", ["k"], [])]
        self.assert_shows(False, charter, goal, [[slot("ann", "k")], [slot(None, "n")]])
        self.assert_shows(False, charter, goal, [[slot("ann", "k")], [slot("", "n", "k"), slot(None, "n")]])
        self.assert_shows(False, charter, [(None, ["n"], [])], [[slot(None, "n")]])

    def test_the_goal_is_cleaned(self):
        charter = charter_of(("ann", ""), rules=[("join", "j", "n")])
        self.assert_shows(True, charter, [(None, ["n"], []), ("ann", ["k"], []), (None, [], ["k"])], [[slot("ann", "k")]])

    def test_ways_back_are_cleaned(self):
        rules = [("join", "j", "n"), ("give", "g", "n", "w", "", "k")]
        charter = charter_of(("ann", ""), ("bob", ""), rules=rules)
        goal = [("ann", ["k"], [])]
        self.assert_shows(True, charter, goal, [[slot("ann", "k")], [slot("ann", "w", "k")]])
        self.assert_shows(True, charter, goal, [[slot("ann", "k")], [slot("ann", "w", "k")]], ["bob"])
        self.assert_shows(False, charter, goal, [[slot("ann", "k")], [slot("ann", "w", "k"), slot("bob", "n")]])

    def test_impossible_markings_are_left_out(self):
        rules = [("claim", "c", "w", "", "k"), ("join", "j", "x")]
        charter = charter_of(("ann", "s"), ("bob", ""), rules=rules, sole="sn")
        goal = [("bob", ["k"], [])]
        right = [[slot("bob", "k")], [slot("bob", "w", "k")]]
        for extra in ([slot("ann", "s", "s")], [slot(None, "k", "wk"), slot("bob", "k")], [slot("ann", "s"), slot("bob", "s")],
                      [slot(None, "ks"), slot(None, "s"), slot("", "x")], [slot(None, "n")], [slot("bob", "kn")]):
            self.assert_shows(True, charter, goal, [*right, extra])
            # They lie below nothing, either.
            self.assert_shows(False, charter, goal, [right[0], extra])
        for extra in ([slot(None, "k")], [slot("ann", "sk")], [slot(None, "s"), slot(None, "k")]):
            self.assert_shows(False, charter, goal, [*right, extra])

    def test_an_impossible_marking_is_not_below_the_goal(self):
        charter = charter_of(("ann", ""))
        self.assert_shows(False, charter, [("ann", ["k"], ["n"])], [[slot("ann", "k", "k")]])


class ClosedLists(Closed):
    def assert_form(self, charter, markings):
        self.assertIsInstance(markings, list)
        for marking in markings:
            self.assertIsInstance(marking, tuple)
            for part in marking:
                self.assertIsInstance(part, tuple)
                label, holds, lacks = part
                self.assertIn(label, (None, "", *charter.founder_names))
                self.assertEqual((holds, lacks), (charter.ordered(holds), charter.ordered(lacks)))

    def test_reached(self):
        charter = charter_of(("ann", "w"), rules=[("claim", "c", "w", "", "k")])
        self.assertIsNone(closed_list(charter, [(None, ["k"], [])]))
        self.assertIsNone(closed_list(charter, [("ann", ["w"], [])], trusted=["ann"]))

    def test_never_reached(self):
        charter = charter_of(("ann", "w"), rules=[("claim", "c", "w", "", "k")])
        markings = closed_list(charter, [("ann", ["x", "w"], ["k"])], trusted=["ann"])
        self.assert_form(charter, markings)
        self.assertIs(check_closed(charter, [("ann", ["x", "w"], ["k"])], markings, trusted=["ann"]), True)

    def test_drawn_lists_and_lists_that_were_changed(self):
        shown = []
        for seed in range(400):
            rng = random.Random(seed)
            charter = draw_charter(rng, rights=(1, 3), rules=(1, 5))
            goal = draw_goal(rng, charter)
            trusted = draw_trusted(rng, charter)
            markings = closed_list(charter, goal, trusted=trusted)
            self.assertEqual(markings is None, can_come(charter, goal, trusted=trusted) is not None)
            if markings is not None:
                self.assert_form(charter, markings)
                self.assertIs(check_closed(charter, goal, markings, trusted=trusted), True)
            if markings is not None and len(markings) > 20:
                continue
            words = Words(charter, trusted)
            if markings is not None:
                self.assertTrue(words.shows(goal, markings))
            for _ in range(6):
                other = self.changed(rng, charter, markings or [])
                answer = check_closed(charter, goal, other, trusted=trusted)
                self.assertIs(answer, words.shows(goal, other))
                self.assertFalse(answer and markings is None)
                shown.append(answer)
        self.assertGreater(shown.count(True), 200)
        self.assertGreater(shown.count(False), 200)

    def changed(self, rng, charter, markings):
        """A list with a marking more or less, or with one slot that is left out or another one."""
        rows = [list(marking) for marking in markings]
        labels = [None, "", *charter.founder_names]
        full = [row for row in rows if row]
        change = rng.choice(["less", "more", "slot", "slot", "slot"]) if full else "more"
        if change == "less":
            rows.remove(rng.choice(rows))
        if change == "more":
            rows.append([(rng.choice(labels), *split_of(rng, charter.rights, 0.4)) for _ in range(rng.randint(0, 3))])
        if change == "slot":
            row = rng.choice(full)
            label, holds, lacks = row.pop(rng.randrange(len(row)))
            row.extend(rng.choice([[], [(rng.choice(labels), holds, lacks)],
                                   [(label, tuple(part_of(rng, holds, 0.6)), tuple(part_of(rng, lacks, 0.6)))]]))
        return [tuple(row) for row in rows]


if __name__ == "__main__":
    unittest.main()
