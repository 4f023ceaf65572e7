"""Points 82 to 86: what is newly held by another charter, and what a rule opens."""

import copy
import itertools
import random
import unittest

from helpers import draw_charter, draw_founders, draw_rule, draw_trusted, part_of, told
from whoevermay.amendments import closed_by, newly_held, no_longer_held, opened_by
from whoevermay.charters import Charter
from whoevermay.errors import InvalidCharter, InvalidQuestion, TooMany, UnknownName
from whoevermay.reach import can_come

ABC = Charter(rights=["a", "b", "c"], founders=[("ann", ["a"])], rules=[("claim", "c1", ["b"], [], "c")])
GRAB = ("claim", "c2", ["a"], [], "b")


def held_by(*people, rights="abcd", rules=(), sole=()):
    """A charter whose founders hold rights that are given as strings."""
    names = ["ann", "bob", "cid", "dan", "eve"]
    return Charter(rights=rights, sole=sole, founders=[(name, list(held)) for name, held in zip(names, people)], rules=rules)


class NewlyHeld(unittest.TestCase):
    def assert_new(self, sets, old, new, **more):
        found = newly_held(old, new, **more)
        self.assertEqual(found, [tuple(some) for some in sets])
        self.assertIs(type(found), list)
        self.assertEqual(no_longer_held(new, old, **more), found)

    def test_nothing(self):
        self.assert_new([], ABC, ABC)
        self.assert_new([], held_by("ab"), held_by("a"))
        self.assert_new([], held_by("abcd"), held_by("abcd", "abcd"))
        self.assert_new([], held_by(), held_by(""))
        self.assert_new([], held_by(), held_by())

    def test_sets_of_one_right(self):
        self.assert_new(["a"], held_by(""), held_by("a"))
        self.assert_new(["b", "d"], held_by("a", "c"), held_by("a", "b", "c", "d"))
        self.assert_new(["a", "b", "c", "d"], held_by(), held_by("abcd"))
        self.assert_new(["b", "c"], ABC, ABC.with_rule(GRAB))

    def test_sets_of_two_rights(self):
        self.assert_new(["ab"], held_by("a", "b"), held_by("ab"))
        self.assert_new(["ac", "bd"], held_by("ab", "cd", "ad", "bc"), held_by("ac", "bd"))
        self.assert_new(["ab", "ac", "ad", "bc", "bd", "cd"], held_by("a", "b", "c", "d"), held_by("abcd"))

    def test_sets_of_three_rights(self):
        self.assert_new(["abc"], held_by("ab", "ac", "bc"), held_by("abc"))
        self.assert_new(["abd", "bcd"], held_by("ab", "ad", "bd", "bc", "cd"), held_by("abd", "bcd"))
        self.assert_new(["abcd"], held_by("abc", "abd", "acd", "bcd"), held_by("abcd"))

    def test_sets_of_all_sizes_in_their_order(self):
        self.assert_new(["d", "ab"], held_by("a", "b", "bc"), held_by("ab", "bc", "cd"))
        self.assert_new(["d", "ac", "bc"], held_by("ab", "c"), held_by("abc", "d"))
        old = held_by("ab", "ac", "bc", "ad", rights="abcde")
        self.assert_new(["e", "bd", "cd", "abc"], old, held_by("abcde", rights="abcde"))

    def test_rights_in_the_order_of_the_charter(self):
        old, new = held_by("d", "b", "a", rights="dba"), held_by("db", "ba", "da", rights="dba")
        self.assert_new(["db", "da", "ba"], old, new)
        self.assert_new(["db"], held_by("d", "ba", "da", rights="dba"), held_by("db", rights="dba"))

    def test_none_is_a_part_of_another_one(self):
        self.assert_new(["a", "bc"], held_by("b", "c"), held_by("abc"))
        self.assert_new(["a"], held_by("bc"), held_by("abc"))

    def test_what_nobody_can_hold_by_the_new_charter(self):
        # Neither has the new one all that the old one has.
        self.assert_new(["c"], held_by("ab"), held_by("a", "c"))
        self.assert_new(["b"], held_by("a"), held_by("b"))
        self.assertEqual(no_longer_held(held_by("a"), held_by("b")), [("a",)])

    def test_sets_that_nobody_comes_to_hold_alone(self):
        # A set is held also by who holds more.
        drop = [("drop", "d", [], [], "a")]
        self.assert_new([], held_by("abc"), held_by("abc", rules=drop))
        self.assert_new(["ab", "ac", "bc"], held_by("a", "b", "c"), held_by("abc", "d", rules=drop).with_founder("bob", []))

    def test_sole_rights(self):
        rules = [("pass", "p", [], [], [], "a")]
        old = held_by("a", "b", sole="a")
        self.assert_new(["ab"], old, held_by("a", "b", sole="a", rules=rules))
        self.assert_new(["a"], held_by("", "b", sole="a", rules=rules), held_by("a", "", sole="a"))

    def test_trusted_founders(self):
        give = [("give", "g", ["a"], [], [], "b")]
        old, new = held_by("a", "c"), held_by("a", "c", rules=give)
        self.assert_new(["b"], old, new)
        self.assert_new([], old, new, trusted=["ann"])
        self.assert_new(["b"], old, new, trusted=["bob"])
        claim = [("claim", "g", ["a"], [], "b")]
        self.assert_new([], old, held_by("a", "c", rules=claim), trusted=("ann",))

    def test_another_number_of_people(self):
        self.assert_new(["a"], held_by(), held_by("a"))
        self.assert_new(["a", "c"], held_by("b"), held_by("", "", "abc"))


class Refused(unittest.TestCase):
    def test_other_rights(self):
        for rights, sole in (("abd", ""), ("acb", ""), ("ab", ""), ("abcd", ""), ("abc", "c"), ("abc", "ab")):
            other = Charter(rights=rights, sole=sole, founders=[("ann", [])])
            for function in (newly_held, no_longer_held):
                for one, two in ((ABC, other), (other, ABC)):
                    with self.assertRaises(InvalidQuestion):
                        function(one, two)
                    with self.assertRaises(InvalidQuestion):
                        function(one, two, trusted=["zoe"], limit=1)

    def test_other_sole_rights(self):
        for one, two in itertools.permutations(("", "a", "b", "ab"), 2):
            with self.assertRaises(InvalidQuestion):
                newly_held(held_by(sole=one), held_by(sole=two))

    def test_the_same_sole_rights_in_another_order(self):
        self.assertEqual(newly_held(held_by("", sole="ab"), held_by("ab", sole="ba")), [("a",), ("b",)])

    def test_a_trusted_name_that_only_one_charter_has(self):
        # The new charter is asked first; the old one only if somebody can come to hold a set by the new one.
        old = Charter(rights=["a", "b"], founders=[("ann", []), ("bob", [])])
        new = Charter(rights=["a", "b"], founders=[("ann", [])])
        with self.assertRaises(UnknownName) as caught:
            newly_held(old, new, trusted=["ann", "bob"])
        self.assertEqual(caught.exception.name, "bob")
        self.assertEqual(newly_held(new, old, trusted=["bob"]), [])
        self.assertEqual(no_longer_held(old, new, trusted=["bob"]), [])
        with self.assertRaises(UnknownName):
            no_longer_held(new, old, trusted=["bob"])
        some = Charter(rights=["a", "b"], founders=[("ann", []), ("bob", ["b"])])
        with self.assertRaises(UnknownName) as caught:
            newly_held(new, some, trusted=["ann", "bob"])
        self.assertEqual(caught.exception.name, "bob")
        with self.assertRaises(UnknownName) as caught:
            no_longer_held(some, new, trusted=["zoe", "bob"])
        self.assertEqual(caught.exception.name, "zoe")

    def test_a_trusted_name_comes_ahead_of_too_many(self):
        for function in (newly_held, no_longer_held):
            with self.assertRaises(UnknownName) as caught:
                function(ABC, ABC, trusted=["ann", "zoe", "yan"], limit=1)
            self.assertEqual(caught.exception.name, "zoe")
        for ask in (lambda: opened_by(ABC, GRAB, trusted=["zoe"], limit=1), lambda: closed_by(ABC, "c1", trusted=["zoe"], limit=1)):
            with self.assertRaises(UnknownName) as caught:
                ask()
            self.assertEqual(caught.exception.name, "zoe")


class OpenedAndClosed(unittest.TestCase):
    def test_the_example(self):
        self.assertEqual(opened_by(ABC, GRAB), [("b",), ("c",)])

    def test_opened(self):
        self.assertEqual(opened_by(ABC, ("claim", "c2", ["c"], [], "b")), [])
        self.assertEqual(opened_by(ABC, ("join", "j", ["b"])), [("b",), ("c",)])
        self.assertEqual(opened_by(ABC, ("join", "j", ["a"])), [])
        self.assertEqual(opened_by(held_by("a", "b"), ("claim", "c", ["a"], [], "b")), [("a", "b")])
        self.assertEqual(opened_by(held_by("ab", "ac", "bc"), ("claim", "c", ["a", "b"], [], "c")), [("a", "b", "c")])
        self.assertEqual(opened_by(ABC, GRAB, trusted=["ann"]), [])

    def test_closed(self):
        more = ABC.with_rule(GRAB)
        self.assertEqual(closed_by(more, "c2"), [("b",), ("c",)])
        self.assertEqual(closed_by(more, "c1"), [("c",)])
        self.assertEqual(closed_by(ABC, "c1"), [])
        self.assertEqual(closed_by(more, "c2", trusted=["ann"]), [])
        self.assertEqual(closed_by(held_by("a", "b", rules=[("claim", "c", ["a"], [], "b")]), "c"), [("a", "b")])

    def test_a_name_that_is_there(self):
        for rule in (("claim", "c1", ["a"], [], "b"), ("join", "c1", []), ("claim", "c1", ["nil"], [], "b"), ("none", "c1")):
            with self.assertRaises(InvalidQuestion):
                opened_by(ABC, rule)
            with self.assertRaises(InvalidQuestion):
                opened_by(ABC, rule, trusted=["zoe"], limit=1)

    def test_a_rule_that_breaks_a_rule_for_charters(self):
        for rule in (("claim", "c2", ["nil"], [], "b"), ("none", "c2"), ("join", "No", []), ("pass", "c2", [], [], [], "b"), ("claim", "c2", [], ["b"], "b")):
            with self.assertRaises(InvalidCharter):
                opened_by(ABC, rule, trusted=["zoe"], limit=1)
        full = ABC
        for at in range(11):
            full = full.with_rule(("join", f"j{at}", []))
        with self.assertRaises(InvalidCharter):
            opened_by(full, GRAB)
        with self.assertRaises(InvalidQuestion):
            opened_by(full, ("join", "j0", []))

    def test_a_rule_that_is_too_short_for_a_name(self):
        # The only part may be a name that a rule has, but it is not the name of this rule.
        join = Charter(rights=["a"], rules=[("join", "join", []), ("join", "c1", [])])
        for charter in (Charter(rights=["a"]), ABC, join):
            for rule in ((), [], ("join",), ["join"], ("claim",), ("c1",), ("",)):
                with self.assertRaises(InvalidCharter, msg=rule):
                    opened_by(charter, rule)
                with self.assertRaises(InvalidCharter, msg=rule):
                    opened_by(charter, rule, trusted=["zoe"], limit=1)

    def test_each_number_of_parts(self):
        rules = [("join", "new", []), ("claim", "new", [], [], "b"), ("drop", "new", [], [], "b"), ("give", "new", [], [], [], "b"),
                 ("take", "new", [], [], [], "b"), ("pass", "new", [], [], [], "s")]
        charter = Charter(rights=["b", "s"], sole=["s"], rules=[("join", "old", [])])
        for rule in rules:
            self.assertIsInstance(opened_by(charter, rule), list)
            for short in [*[rule[:many] for many in range(len(rule))], (*rule, "b")]:
                with self.assertRaises(InvalidCharter, msg=short):
                    opened_by(charter, short)
            for short in [(rule[0], "old", *rule[2:many]) for many in range(2, len(rule))]:
                with self.assertRaises(InvalidQuestion, msg=short):
                    opened_by(charter, short)

    def test_a_name_that_is_not_there(self):
        for name in ("c2", "ann", "a", "", "No"):
            with self.assertRaises(UnknownName) as caught:
                closed_by(ABC, name, trusted=["zoe"], limit=1)
            self.assertEqual(caught.exception.name, name)

    def test_nothing_is_modified(self):
        rule, trusted = ["claim", "c2", ["a"], [], "b"], ["ann"]
        before = copy.deepcopy((vars(ABC), rule, trusted))
        opened_by(ABC, rule, trusted=trusted)
        closed_by(ABC, "c1", trusted=trusted)
        newly_held(ABC, ABC, trusted=trusted)
        no_longer_held(ABC, ABC, trusted=trusted)
        self.assertEqual((vars(ABC), rule, trusted), before)


def by_words(old, new, trusted, limit):
    """Points 83 to 85, set by set."""
    rights = new.rights
    places = [some for many in range(1, len(rights) + 1) for some in sorted(itertools.combinations(range(len(rights)), many))]
    found, barred = [], []
    for some in [tuple(rights[at] for at in row) for row in places]:
        if any(set(part) <= set(some) for part in found + barred):
            continue
        if can_come(new, [(None, some, ())], trusted=trusted, limit=limit) is None:
            barred.append(some)
        elif can_come(old, [(None, list(some), [])], trusted=trusted, limit=limit) is None:
            found.append(some)
    return found


class Drawn(unittest.TestCase):
    def draw_pair(self, rng):
        """Two charters with the same rights and the same sole rights; the second one is drawn or a change of the first one."""
        if rng.random() < 0.4:
            # Few rules and much that is held, so that larger sets make the difference.
            names = list("abcd")
            more = [draw_founders(rng, names, [], 4, 0.65) for _ in range(2)]
            rules = [draw_rule(rng, "s", names, [], 0.5)] * rng.randint(0, 1)
            return Charter(rights=names, founders=more[0]), Charter(rights=names, founders=more[1], rules=rules)
        old = draw_charter(rng, rights=(1, 4), rules=(1, 6), founders=4)
        rules = [rule for rule in old.rules if rng.random() < 0.7]
        rules += [draw_rule(rng, f"s{at}", list(old.rights), list(old.sole), 0.2) for at in range(rng.randint(0, 3))]
        founders = old.founders
        if rng.random() < 0.5:
            founders = draw_founders(rng, list(old.rights), list(old.sole), 4)
        return old, Charter(rights=old.rights, sole=old.sole, founders=founders, rules=rules)

    def test_drawn_pairs(self):
        found = []
        for seed in range(500):
            rng = random.Random(seed)
            old, new = self.draw_pair(rng)
            trusted = rng.choice([[], [], draw_trusted(rng, old), part_of(rng, new.founder_names, 0.4)])
            limit = rng.choice([2000, 2000, 1, 2, 3])
            answer = told(lambda: newly_held(old, new, trusted=trusted, limit=limit))
            self.assertEqual(answer, told(lambda: by_words(old, new, trusted, limit)))
            self.assertEqual(told(lambda: no_longer_held(old, new, trusted=trusted, limit=limit)),
                             told(lambda: by_words(new, old, trusted, limit)))
            found.append(answer)
        self.assertGreater(len([answer for answer in found if str(answer).startswith("too")]), 30)
        self.assertGreater(len([answer for answer in found if str(answer).startswith("unknown")]), 5)
        answers = [answer for answer in found if isinstance(answer, list)]
        self.assertGreater(answers.count([]), 30)
        for size in (1, 2, 3):
            self.assertGreater(len([answer for answer in answers if any(len(some) == size for some in answer)]), 3)

    def test_the_least_sets_against_all_sets(self):
        """Point 84 without the order of point 85: all sets that are newly held are told by the least ones of them."""
        for seed in range(120):
            rng = random.Random(seed)
            old, new = self.draw_pair(rng)
            sets = [some for many in range(1, len(old.rights) + 1) for some in itertools.combinations(old.rights, many)]
            fresh = [some for some in sets if can_come(new, [(None, some, ())]) is not None and can_come(old, [(None, some, ())]) is None]
            least = [some for some in fresh if not any(set(part) < set(some) for part in fresh)]
            self.assertEqual(newly_held(old, new), least)

    def test_drawn_rules(self):
        found = []
        for seed in range(200):
            rng = random.Random(seed)
            charter = draw_charter(rng, rights=(1, 4), rules=(1, 6), founders=4)
            trusted, limit = draw_trusted(rng, charter), rng.choice([2000, 2000, 1, 2])
            rule = draw_rule(rng, "new", list(charter.rights), list(charter.sole), 0.2)
            more = {"trusted": trusted, "limit": limit}
            opened = told(lambda: opened_by(charter, rule, **more))
            self.assertEqual(opened, told(lambda: by_words(charter, charter.with_rule(rule), trusted, limit)))
            name = rng.choice(charter.rule_names)
            closed = told(lambda: closed_by(charter, name, **more))
            self.assertEqual(closed, told(lambda: by_words(charter.without_rules([name]), charter, trusted, limit)))
            self.assertEqual(opened, told(lambda: closed_by(charter.with_rule(rule), "new", **more)))
            found += [opened, closed]
        self.assertGreater(len([answer for answer in found if answer and isinstance(answer, list)]), 20)
        self.assertGreater(len([answer for answer in found if isinstance(answer, str)]), 10)


if __name__ == "__main__":
    unittest.main()
