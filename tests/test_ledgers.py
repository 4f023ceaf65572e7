"""Points 87 to 98: ledgers of grants that are taken back and restored."""

import copy
import itertools
import random
import unittest

from whoevermay.errors import InvalidEntry, UnknownName, WhoevermayError
from whoevermay.ledgers import Grant, Ledger

OWNERS = [("key", "ann"), ("pen", "bob")]
LONG = "abcdefghijkl"


def fields(grant):
    return (grant.giver, grant.receiver, grant.right, grant.may_pass)


def ledger_of(*rows, owners=OWNERS):
    """A ledger with grants written as `ann bob key`, with a `+` at the end if the right may be handed on."""
    ledger = Ledger(owners)
    for row in rows:
        giver, receiver, right, *sign = row.split(" ")
        ledger.grant(giver, receiver, right, may_pass=sign == ["+"])
    return ledger


def state_of(ledger):
    people = ["ann", "bob", "cid", "dan", "eve", "zoe"]
    rights = [right for right, _ in ledger.owners]
    return (ledger.owners, [fields(grant) for grant in ledger.grants], ledger.taken_back, ledger.standing(), [ledger.holders(right) for right in rights],
            [(ledger.holds(person, right), ledger.may_pass(person, right), ledger.chains(person, right)) for person in people for right in rights])


class Ledgers(unittest.TestCase):
    def assert_refused(self, ledger, method, *arguments, **more):
        before = state_of(ledger)
        with self.assertRaises(InvalidEntry) as caught:
            getattr(ledger, method)(*arguments, **more)
        self.assertIsInstance(caught.exception, WhoevermayError)
        self.assertEqual(state_of(ledger), before)

    def assert_state(self, ledger, standing, taken_back, holders, right="key"):
        self.assertEqual(ledger.standing(), standing)
        self.assertEqual(ledger.taken_back, taken_back)
        self.assertEqual(ledger.holders(right), holders)
        for person in ("ann", "bob", "cid", "dan", "eve", "zoe", "", "Not a name"):
            self.assertIs(ledger.holds(person, right), person in holders)


class Owners(Ledgers):
    def test_no_right(self):
        for owners in ([], ()):
            ledger = Ledger(owners)
            self.assertEqual((ledger.owners, ledger.grants, ledger.standing(), ledger.taken_back), ((), [], [], []))
            for right in ("key", ""):
                with self.assertRaises(UnknownName) as caught:
                    ledger.owner(right)
                self.assertEqual(caught.exception.name, right)

    def test_one_and_several(self):
        self.assertEqual(Ledger([("key", "ann")]).owners, (("key", "ann"),))
        ledger = Ledger([["pen", "ann"], ("key", "bob"), ["ann", "ann"]])
        self.assertEqual(ledger.owners, (("pen", "ann"), ("key", "bob"), ("ann", "ann")))
        self.assertEqual([type(row) for row in (ledger.owners, *ledger.owners)], [tuple] * 4)
        self.assertEqual([ledger.owner(right) for right in ("key", "pen", "ann")], ["bob", "ann", "ann"])
        self.assertEqual(ledger.holders("pen"), ["ann"])
        self.assertEqual(Ledger([(f"r{at}", LONG) for at in range(30)]).owner("r29"), LONG)

    def test_owners_that_are_refused(self):
        for word in ("", "A", "Ann", "1", "9a", "a b", "a_b", "a-b", "ann\n", "\u00e4", LONG + "m"):
            for owners in ([(word, "ann")], [("key", word)], [("key", "ann"), (word, "bob")], [("key", "ann"), ("pen", word), ("cup", "bob")]):
                with self.assertRaises(InvalidEntry):
                    Ledger(owners)
        for owners in ([("key", "ann"), ("key", "ann")], [("key", "ann"), ("pen", "bob"), ("key", "bob")]):
            with self.assertRaises(InvalidEntry) as caught:
                Ledger(owners)
            self.assertIsInstance(caught.exception, ValueError)

    def test_the_list_may_be_changed_behind_the_call(self):
        owners = [["key", "ann"], ["pen", "bob"]]
        ledger = Ledger(owners)
        owners[0][1] = "zoe"
        owners.pop()
        self.assertEqual(ledger.owners, (("key", "ann"), ("pen", "bob")))
        self.assertEqual((ledger.owner("key"), ledger.owner("pen")), ("ann", "bob"))
        rows = [("key", "ann")]
        before = copy.deepcopy(rows)
        Ledger(rows).grant("ann", "bob", "key")
        self.assertEqual(rows, before)

    def test_the_owner_holds_the_right_and_may_hand_it_on(self):
        ledger = Ledger(OWNERS)
        self.assertEqual([ledger.holds(person, "key") for person in ("ann", "bob", "zoe", "")], [True, False, False, False])
        self.assertEqual([ledger.may_pass(person, "key") for person in ("ann", "bob", "zoe", "")], [True, False, False, False])
        self.assertEqual([ledger.holds(person, "pen") for person in ("ann", "bob")], [False, True])
        self.assertEqual([ledger.may_pass(person, "pen") for person in ("ann", "bob")], [False, True])


class Grants(Ledgers):
    def test_grants(self):
        ledger = Ledger(OWNERS)
        self.assertEqual(ledger.grant("ann", "bob", "key", may_pass=True), 0)
        self.assertEqual(ledger.grant("bob", "cid", "key"), 1)
        self.assertEqual(ledger.grant("bob", "cid", "pen", may_pass=False), 2)
        self.assertEqual([fields(grant) for grant in ledger.grants], [("ann", "bob", "key", True), ("bob", "cid", "key", False), ("bob", "cid", "pen", False)])
        self.assertEqual([type(grant) for grant in ledger.grants], [Grant] * 3)
        self.assert_state(ledger, [0, 1, 2], [], ["ann", "bob", "cid"])
        self.assert_state(ledger, [0, 1, 2], [], ["bob", "cid"], "pen")
        self.assertEqual([ledger.may_pass(person, "key") for person in ("ann", "bob", "cid", "zoe")], [True, True, False, False])
        self.assertEqual([ledger.may_pass(person, "pen") for person in ("ann", "bob", "cid", "zoe")], [False, True, False, False])

    def test_a_grant_of_its_own(self):
        grant = Grant("No", "", "right", 3)
        self.assertEqual(fields(grant), ("No", "", "right", 3))
        self.assertEqual(sorted(vars(grant)), ["giver", "may_pass", "receiver", "right"])

    def test_receivers_who_hold_the_right_already(self):
        ledger = ledger_of("ann bob key +", "ann bob key", "bob ann key", "ann bob key +", "bob ann key +")
        self.assert_state(ledger, [0, 1, 2, 3, 4], [], ["ann", "bob"])
        self.assertEqual([fields(grant) for grant in ledger.grants][2:], [("bob", "ann", "key", False), ("ann", "bob", "key", True), ("bob", "ann", "key", True)])

    def test_receivers_of_all_names(self):
        ledger = Ledger(OWNERS)
        for number, name in enumerate(["zoe", LONG, "a0", "key", "none"]):
            self.assertEqual(ledger.grant("ann", name, "key"), number)
        self.assertEqual(ledger.holders("key"), ["ann", "zoe", LONG, "a0", "key", "none"])

    def test_receivers_that_are_no_names(self):
        ledger = ledger_of("ann bob key +")
        for name in ("", "A", "Bob", "1", "9a", "a b", "a_b", "bob\n", LONG + "m", "\u00e4"):
            self.assert_refused(ledger, "grant", "ann", name, "key")
            self.assert_refused(ledger, "grant", "bob", name, "key", may_pass=True)

    def test_receivers_who_are_the_giver(self):
        ledger = ledger_of("ann bob key +")
        self.assert_refused(ledger, "grant", "ann", "ann", "key")
        self.assert_refused(ledger, "grant", "bob", "bob", "key", may_pass=True)
        self.assert_refused(ledger, "grant", "zoe", "zoe", "key")

    def test_givers_who_may_not_hand_the_right_on(self):
        ledger = ledger_of("ann bob key +", "bob cid key", "bob dan pen +")
        for giver in ("cid", "dan", "zoe", "", "Ann"):
            self.assert_refused(ledger, "grant", giver, "eve", "key")
            self.assert_refused(ledger, "grant", giver, "ann", "key", may_pass=True)
        for giver in ("ann", "cid"):
            self.assert_refused(ledger, "grant", giver, "eve", "pen")
        self.assertEqual(ledger.grant("dan", "eve", "pen"), 3)

    def test_may_pass_by_one_of_several_grants(self):
        ledger = ledger_of("ann bob key", "ann bob key +", "ann bob key")
        self.assertEqual(ledger.grant("bob", "cid", "key"), 3)
        ledger.take_back(1)
        self.assertIs(ledger.may_pass("bob", "key"), False)
        self.assertIs(ledger.holds("bob", "key"), True)
        self.assert_refused(ledger, "grant", "bob", "dan", "key")
        self.assert_state(ledger, [0, 2], [1], ["ann", "bob"])

    def test_the_giver_may_hand_on_at_that_time(self):
        ledger = ledger_of("ann bob key +")
        ledger.take_back(0)
        self.assert_refused(ledger, "grant", "bob", "cid", "key")
        ledger.restore(0)
        self.assertEqual(ledger.grant("bob", "cid", "key"), 1)

    def test_numbers_go_on_behind_what_was_taken_back(self):
        ledger = ledger_of("ann bob key +", "bob cid key")
        ledger.take_back(0)
        self.assertEqual(ledger.grant("ann", "cid", "key"), 2)
        self.assert_refused(ledger, "grant", "cid", "dan", "key")
        self.assertEqual(ledger.grant("ann", "dan", "key"), 3)
        self.assert_state(ledger, [2, 3], [0], ["ann", "cid", "dan"])

    def test_strange_rights(self):
        ledger = ledger_of("ann bob key")
        before = state_of(ledger)
        for right in ("nil", "ann", "", "KEY"):
            for ask in (lambda: ledger.owner(right), lambda: ledger.holds("ann", right), lambda: ledger.holds("", right),
                        lambda: ledger.may_pass("ann", right), lambda: ledger.may_pass("zoe", right), lambda: ledger.holders(right),
                        lambda: ledger.chains("ann", right), lambda: ledger.chains("zoe", right), lambda: ledger.grant("ann", "cid", right),
                        lambda: ledger.grant("ann", "ann", right), lambda: ledger.grant("ann", "No name", right), lambda: ledger.grant("zoe", "", right)):
                with self.assertRaises(UnknownName) as caught:
                    ask()
                self.assertEqual(caught.exception.name, right)
        self.assertEqual(state_of(ledger), before)

    def test_strange_people_raise_no_error(self):
        ledger = ledger_of("ann bob key")
        for person in ("zoe", "", "No name", "key"):
            self.assertEqual((ledger.holds(person, "key"), ledger.may_pass(person, "key"), ledger.chains(person, "key")), (False, False, []))

    def test_what_is_returned_may_be_changed(self):
        ledger = ledger_of("ann bob key +", "bob cid key +", "cid dan key", "ann dan key")
        ledger.take_back(1)
        before = state_of(ledger)
        for grant in ledger.grants:
            grant.giver, grant.receiver, grant.right, grant.may_pass = "zoe", "ann", "pen", not grant.may_pass
        for rows in (ledger.grants, ledger.taken_back, ledger.standing(), ledger.holders("key"), ledger.chains("dan", "key"),
                     ledger.chains("dan", "key")[0], ledger.would_lose(0)):
            rows.clear()
        self.assertEqual(state_of(ledger), before)
        back = ledger.restore(1)
        self.assertEqual(back, [1, 2])
        back.clear()
        gone = ledger.take_back(1)
        self.assertEqual(gone, [1, 2])
        gone.clear()
        self.assertEqual(state_of(ledger), before)


class TakingBack(Ledgers):
    def test_the_example(self):
        ledger = Ledger([("key", "ann")])
        self.assertEqual([ledger.grant("ann", "bob", "key", may_pass=True), ledger.grant("bob", "cid", "key")], [0, 1])
        self.assertEqual(ledger.chains("cid", "key"), [[0, 1]])
        self.assertEqual(ledger.take_back(0), [0, 1])
        self.assertEqual(ledger.holders("key"), ["ann"])

    def test_a_chain(self):
        ledger = ledger_of("ann bob key +", "bob cid key +", "cid dan key +", "dan eve key")
        self.assert_state(ledger, [0, 1, 2, 3], [], ["ann", "bob", "cid", "dan", "eve"])
        self.assertEqual(ledger.take_back(2), [2, 3])
        self.assert_state(ledger, [0, 1], [2], ["ann", "bob", "cid"])
        self.assertEqual(ledger.take_back(0), [0, 1])
        self.assert_state(ledger, [], [0, 2], ["ann"])
        self.assertEqual(ledger.restore(2), [])
        self.assert_state(ledger, [], [0], ["ann"])
        self.assertEqual(ledger.restore(0), [0, 1, 2, 3])
        self.assert_state(ledger, [0, 1, 2, 3], [], ["ann", "bob", "cid", "dan", "eve"])
        self.assertEqual(ledger.take_back(3), [3])
        self.assertEqual(ledger.take_back(1), [1, 2])
        self.assertEqual(ledger.restore(1), [1, 2])
        self.assertEqual(ledger.restore(3), [3])

    def test_two_ways_to_one_person(self):
        ledger = ledger_of("ann bob key +", "ann cid key +", "bob dan key +", "cid dan key +", "dan eve key")
        self.assertEqual(ledger.take_back(0), [0, 2])
        self.assert_state(ledger, [1, 3, 4], [0], ["ann", "cid", "dan", "eve"])
        self.assertEqual(ledger.take_back(1), [1, 3, 4])
        self.assert_state(ledger, [], [0, 1], ["ann"])
        self.assertEqual(ledger.restore(0), [0, 2, 4])
        self.assert_state(ledger, [0, 2, 4], [1], ["ann", "bob", "dan", "eve"])

    def test_a_way_that_comes_too_late(self):
        # Dan handed the key on before cid gave it to him.
        ledger = ledger_of("ann bob key +", "bob dan key +", "dan eve key", "ann cid key +", "cid dan key +")
        self.assertEqual(ledger.take_back(0), [0, 1, 2])
        self.assert_state(ledger, [3, 4], [0], ["ann", "cid", "dan"])
        self.assertEqual(ledger.grant("dan", "eve", "key"), 5)

    def test_a_way_that_does_not_allow_handing_on(self):
        ledger = ledger_of("ann bob key +", "ann bob key", "bob cid key")
        self.assertEqual(ledger.take_back(0), [0, 2])
        self.assert_state(ledger, [1], [0], ["ann", "bob"])

    def test_cycles(self):
        ledger = ledger_of("ann bob key +", "bob cid key +", "cid bob key +", "bob dan key", "cid ann key +", "ann dan key")
        self.assertEqual(ledger.take_back(1), [1, 2, 4])
        self.assert_state(ledger, [0, 3, 5], [1], ["ann", "bob", "dan"])
        self.assertEqual(ledger.restore(1), [1, 2, 4])
        self.assertEqual(ledger.take_back(0), [0, 1, 2, 3, 4])
        # Ann owns the key, and what she gave stands by itself.
        self.assert_state(ledger, [5], [0], ["ann", "dan"])

    def test_a_cycle_does_not_hold_itself(self):
        ledger = ledger_of("ann bob key +", "bob cid key +", "cid bob key +", "bob cid key +", "cid bob key +")
        self.assertEqual(ledger.take_back(0), [0, 1, 2, 3, 4])
        self.assert_state(ledger, [], [0], ["ann"])

    def test_rights_apart(self):
        ledger = ledger_of("ann bob key +", "bob cid pen +", "cid dan pen", "bob cid key")
        self.assertEqual(ledger.take_back(0), [0, 3])
        self.assert_state(ledger, [1, 2], [0], ["bob", "cid", "dan"], "pen")
        self.assertEqual(ledger.take_back(1), [1, 2])
        self.assertEqual(ledger.taken_back, [0, 1])

    def test_a_grant_that_stands_by_a_grant_of_another_right_would_fall(self):
        ledger = ledger_of("ann cid key +", "bob cid pen +", "cid dan key", "cid dan pen")
        self.assertEqual(ledger.take_back(1), [1, 3])
        self.assert_state(ledger, [0, 2], [1], ["ann", "cid", "dan"])

    def test_a_restored_grant_that_does_not_stand(self):
        ledger = ledger_of("ann bob key +", "bob cid key")
        ledger.take_back(1)
        ledger.take_back(0)
        self.assertEqual(ledger.restore(1), [])
        self.assert_state(ledger, [], [0], ["ann"])
        self.assert_refused(ledger, "restore", 1)
        self.assert_refused(ledger, "take_back", 1)
        self.assertEqual(ledger.restore(0), [0, 1])

    def test_numbers_that_cannot_be_taken_back(self):
        ledger = ledger_of("ann bob key +", "bob cid key", "ann dan key")
        ledger.take_back(0)
        for number in (0, 1, 3, 4, 100, -1, -2, -3):
            self.assert_refused(ledger, "take_back", number)
            self.assert_refused(ledger, "would_lose", number)
        self.assertEqual(ledger.take_back(2), [2])
        self.assert_refused(ledger, "take_back", 2)
        self.assert_refused(ledger_of(), "take_back", 0)
        self.assert_refused(ledger_of(), "take_back", -1)

    def test_numbers_that_cannot_be_restored(self):
        ledger = ledger_of("ann bob key +", "bob cid key", "ann dan key")
        ledger.take_back(0)
        for number in (1, 2, 3, 4, 100, -1, -2, -3):
            self.assert_refused(ledger, "restore", number)
        self.assertEqual(ledger.restore(0), [0, 1])
        self.assert_refused(ledger, "restore", 0)
        self.assert_refused(ledger_of(), "restore", 0)

    def test_a_grant_may_be_taken_back_again(self):
        ledger = ledger_of("ann bob key +", "bob cid key")
        for _ in range(3):
            self.assertEqual(ledger.take_back(0), [0, 1])
            self.assertEqual(ledger.taken_back, [0])
            self.assertEqual(ledger.restore(0), [0, 1])
            self.assertEqual(ledger.taken_back, [])

    def test_what_is_taken_back_in_ascending_order(self):
        ledger = ledger_of("ann bob key", "ann cid key", "ann dan key", "ann eve key")
        for number in (2, 0, 3):
            ledger.take_back(number)
        self.assertEqual((ledger.taken_back, ledger.standing()), ([0, 2, 3], [1]))
        ledger.restore(2)
        self.assertEqual((ledger.taken_back, ledger.standing()), ([0, 3], [1, 2]))

    def test_holders_in_the_order_of_the_first_grant_that_stands(self):
        ledger = ledger_of("ann dan key", "ann bob key", "ann cid key", "ann dan key", "ann bob key")
        self.assertEqual(ledger.holders("key"), ["ann", "dan", "bob", "cid"])
        ledger.take_back(0)
        self.assertEqual(ledger.holders("key"), ["ann", "bob", "cid", "dan"])
        ledger.take_back(1)
        self.assertEqual(ledger.holders("key"), ["ann", "cid", "dan", "bob"])

    def test_the_owner_once_and_first(self):
        ledger = ledger_of("ann bob key +", "bob ann key", "bob cid key")
        self.assertEqual(ledger.holders("key"), ["ann", "bob", "cid"])


class Losing(Ledgers):
    def assert_lost(self, ledger, number, *rows):
        before = state_of(ledger)
        self.assertEqual(ledger.would_lose(number), [tuple(row.split(" ")) for row in rows])
        self.assertEqual(state_of(ledger), before)

    def test_nothing(self):
        ledger = ledger_of("ann bob key", "ann bob key", "ann cid key +", "cid ann key", "cid bob key")
        for number in (0, 1, 3, 4):
            self.assert_lost(ledger, number)

    def test_one_and_several(self):
        ledger = ledger_of("ann bob key +", "bob cid key +", "cid dan key", "ann eve key", "bob cid pen")
        self.assert_lost(ledger, 0, "bob key", "cid key", "dan key")
        self.assert_lost(ledger, 1, "cid key", "dan key")
        self.assert_lost(ledger, 2, "dan key")
        self.assert_lost(ledger, 3, "eve key")
        self.assert_lost(ledger, 4, "cid pen")
        self.assertEqual([[type(row) for row in ledger.would_lose(0)]], [[tuple] * 3])

    def test_each_once_in_the_order_of_the_first_grant(self):
        ledger = ledger_of("ann bob key +", "bob eve key", "bob dan key +", "bob cid key +", "cid dan key", "dan eve key", "cid eve key")
        self.assert_lost(ledger, 0, "bob key", "eve key", "dan key", "cid key")
        self.assert_lost(ledger, 3, "cid key")
        ledger.take_back(1)
        self.assert_lost(ledger, 0, "bob key", "dan key", "cid key", "eve key")

    def test_who_holds_the_right_by_another_grant(self):
        ledger = ledger_of("ann cid key", "ann bob key +", "bob cid key", "bob dan key")
        self.assert_lost(ledger, 1, "bob key", "dan key")
        self.assert_lost(ledger, 0)
        ledger = ledger_of("ann bob key +", "bob cid key", "ann cid key")
        self.assert_lost(ledger, 0, "bob key")

    def test_who_loses_only_handing_on(self):
        ledger = ledger_of("ann bob key +", "ann bob key", "bob cid key")
        self.assert_lost(ledger, 0, "cid key")

    def test_the_owner_loses_nothing(self):
        ledger = ledger_of("ann bob key +", "bob ann key +", "bob cid key +", "cid ann key")
        self.assert_lost(ledger, 0, "bob key", "cid key")
        self.assert_lost(ledger, 1)
        self.assert_lost(ledger, 2, "cid key")

    def test_it_is_what_is_lost_then(self):
        for seed in range(60):
            rng = random.Random(seed)
            ledger = draw_ledger(rng)
            for number in ledger.standing():
                lost = ledger.would_lose(number)
                rows = [(right, ledger.holders(right)) for right, _ in ledger.owners]
                other = copy.deepcopy(ledger)
                other.take_back(number)
                self.assertEqual(sorted(lost), sorted((person, right) for right, people in rows for person in people if not other.holds(person, right)))


class Chains(Ledgers):
    def test_nobody_and_the_owner(self):
        ledger = ledger_of("ann bob key")
        for person in ("ann", "cid", "zoe", ""):
            self.assertEqual(ledger.chains(person, "key"), [])
        self.assertEqual(ledger.chains("bob", "pen"), [])
        self.assertEqual(ledger.chains("bob", "key"), [[0]])

    def test_one_way(self):
        ledger = ledger_of("ann bob key +", "bob cid key +", "cid dan key")
        self.assertEqual(ledger.chains("dan", "key"), [[0, 1, 2]])
        self.assertEqual(ledger.chains("cid", "key"), [[0, 1]])

    def test_several_ways(self):
        ledger = ledger_of("ann bob key +", "ann cid key +", "bob dan key +", "cid dan key +", "ann dan key", "dan eve key", "ann bob key +", "bob dan key")
        self.assertEqual(ledger.chains("dan", "key"), [[0, 2], [0, 7], [1, 3], [4], [6, 7]])
        self.assertEqual(ledger.chains("eve", "key"), [[0, 2, 5], [1, 3, 5]])
        ledger.take_back(0)
        self.assertEqual(ledger.chains("dan", "key"), [[1, 3], [4], [6, 7]])
        self.assertEqual(ledger.chains("eve", "key"), [[1, 3, 5]])

    def test_numbers_are_compared_as_numbers(self):
        ledger = Ledger([("key", "ann")])
        for _ in range(12):
            ledger.grant("ann", "bob", "key", may_pass=True)
        self.assertEqual(ledger.chains("bob", "key"), [[number] for number in range(12)])

    def test_a_chain_that_another_one_begins_with(self):
        ledger = ledger_of("ann bob key +", "bob cid key +", "cid bob key +", "bob cid key")
        self.assertEqual(ledger.chains("bob", "key"), [[0], [0, 1, 2]])
        self.assertEqual(ledger.chains("cid", "key"), [[0, 1], [0, 1, 2, 3], [0, 3]])

    def test_chains_through_and_to_the_owner(self):
        ledger = ledger_of("ann bob key +", "bob ann key +", "ann cid key", "bob ann key", "ann dan key")
        self.assertEqual(ledger.chains("ann", "key"), [[0, 1], [0, 3]])
        self.assertEqual(ledger.chains("cid", "key"), [[0, 1, 2], [2]])
        self.assertEqual(ledger.chains("dan", "key"), [[0, 1, 4], [4]])

    def test_only_those_who_may_hand_on(self):
        ledger = ledger_of("ann bob key", "ann bob key +", "bob cid key", "bob cid pen +", "cid dan pen")
        self.assertEqual(ledger.chains("cid", "key"), [[1, 2]])
        self.assertEqual(ledger.chains("dan", "pen"), [[3, 4]])
        self.assertEqual(ledger.chains("dan", "key"), [])

    def test_numbers_ascend(self):
        ledger = ledger_of("ann bob key +", "bob cid key", "ann bob key +")
        self.assertEqual(ledger.chains("cid", "key"), [[0, 1]])

    def test_a_long_chain(self):
        ledger = Ledger([("key", "p0")])
        for number in range(1500):
            ledger.grant(f"p{number}", f"p{number + 1}", "key", may_pass=True)
        self.assertEqual(ledger.chains("p1500", "key"), [list(range(1500))])
        self.assertEqual(ledger.take_back(700), list(range(700, 1500)))
        self.assertEqual(ledger.chains("p1500", "key"), [])


def draw_ledger(rng, many=14):
    """A ledger with grants, some of which were taken back, and some of those restored."""
    people = ["ann", "bob", "cid", "dan", "eve"]
    ledger = Ledger([("key", "ann"), ("pen", rng.choice(people))])
    for _ in range(many):
        right = rng.choice(["key", "key", "pen"])
        givers = [person for person in people if ledger.may_pass(person, right)]
        giver = rng.choice(givers)
        ledger.grant(giver, rng.choice([person for person in people if person != giver]), right, may_pass=rng.random() < 0.7)
        if rng.random() < 0.2 and ledger.standing():
            ledger.take_back(rng.choice(ledger.standing()))
        if rng.random() < 0.1 and ledger.taken_back:
            ledger.restore(rng.choice(ledger.taken_back))
    return ledger


class Drawn(Ledgers):
    """All that a ledger tells, by the words of the document."""

    def standing(self, ledger):
        """Point 89, with the owners and the grants ahead looked up anew for each grant."""
        rows = [fields(grant) for grant in ledger.grants]
        stand = []
        for number, (giver, _, right, _) in enumerate(rows):
            if number not in ledger.taken_back:
                if (right, giver) in ledger.owners or any(rows[one][1:] == (giver, right, True) for one in stand):
                    stand.append(number)
        return stand

    def is_chain(self, ledger, numbers, person, right):
        rows = [fields(grant) for grant in ledger.grants]
        if any(rows[number][2] != right or number not in ledger.standing() for number in numbers):
            return False
        if (right, rows[numbers[0]][0]) not in ledger.owners or rows[numbers[-1]][1] != person:
            return False
        return all(rows[one][1] == rows[other][0] and rows[one][3] for one, other in zip(numbers, numbers[1:]))

    def test_drawn_ledgers(self):
        for seed in range(80):
            ledger = draw_ledger(random.Random(seed), 9)
            stand = self.standing(ledger)
            self.assertEqual(ledger.standing(), stand)
            rows = [fields(grant) for grant in ledger.grants]
            for (right, owner), person in itertools.product(ledger.owners, ["ann", "bob", "cid", "dan", "eve"]):
                got = [rows[number] for number in stand if rows[number][1:3] == (person, right)]
                self.assertIs(ledger.holds(person, right), person == owner or got != [])
                self.assertIs(ledger.may_pass(person, right), person == owner or any(row[3] for row in got))
                chains = [list(some) for many in range(1, len(stand) + 1) for some in itertools.combinations(stand, many)
                          if self.is_chain(ledger, some, person, right)]
                self.assertEqual(ledger.chains(person, right), sorted(chains))
                # Point 95.
                if person != owner:
                    self.assertIs(ledger.holds(person, right), chains != [])

    def test_what_is_told_of_taking_back_and_restoring(self):
        for seed in range(80):
            rng = random.Random(seed)
            ledger = draw_ledger(rng)
            for _ in range(10):
                before, back = ledger.standing(), ledger.taken_back
                number = rng.randrange(len(ledger.grants))
                if number in before:
                    gone = ledger.take_back(number)
                    self.assertEqual(gone, [one for one in before if one not in self.standing(ledger)])
                    self.assertEqual(ledger.taken_back, sorted([*back, number]))
                elif number in back:
                    found = ledger.restore(number)
                    self.assertEqual(found, [one for one in self.standing(ledger) if one not in before])
                    self.assertEqual(ledger.taken_back, [one for one in back if one != number])
                else:
                    self.assert_refused(ledger, "take_back", number)
                    self.assert_refused(ledger, "restore", number)
                self.assertEqual(ledger.standing(), self.standing(ledger))

    def test_several_orders_come_to_the_same(self):
        """Point 96."""
        skipped = 0
        for seed in range(60):
            rng = random.Random(seed)
            ledger = draw_ledger(rng)
            some = rng.sample(ledger.standing(), min(3, len(ledger.standing())))
            ends = []
            for order in itertools.permutations(some):
                other = copy.deepcopy(ledger)
                for number in order:
                    if number in other.standing():
                        other.take_back(number)
                    else:
                        skipped += 1
                ends.append(other.standing())
            self.assertTrue(all(end == ends[0] for end in ends))
        self.assertGreater(skipped, 20)


if __name__ == "__main__":
    unittest.main()
