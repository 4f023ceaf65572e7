"""Points 71 and 72: the words of a line, and which words are a command."""

import copy
import itertools
import random
import unittest

from whoevermay.charters import is_name
from whoevermay.commands import goal_of, is_command, split_words

RESERVED = ["and", "with", "without", "trusting", "anybody"]
LONG = "abcdefghijkl"
NO_NAMES = ["", "A", "Ann", "1", "9a", "a_b", "a-b", "a:", ":", "a\tb", "\ta", "a\r", "\u00e4", LONG + "m", *RESERVED]


class Words(unittest.TestCase):
    def test_words(self):
        self.assertEqual(split_words("undo"), ["undo"])
        self.assertEqual(split_words("ask q club ann"), ["ask", "q", "club", "ann"])
        self.assertEqual(split_words("  a   b  "), ["a", "b"])
        self.assertEqual(split_words(" a"), ["a"])
        self.assertEqual(split_words("a "), ["a"])
        self.assertEqual(split_words("a  b c"), ["a", "b", "c"])

    def test_a_line_without_words(self):
        for line in ("", " ", "     "):
            self.assertEqual(split_words(line), [])

    def test_other_characters_belong_to_words(self):
        for sign in "\t\r\v\f\x00\u00a0\u2003\u3000:%\x1c":
            self.assertEqual(split_words(f"a{sign}b"), [f"a{sign}b"])
            self.assertEqual(split_words(f" {sign} "), [sign])
            self.assertEqual(split_words(f"{sign} a{sign} "), [sign, "a" + sign])


class Goals(unittest.TestCase):
    def goal(self, line):
        words = split_words(line)
        before = list(words)
        found = goal_of(words)
        self.assertEqual(words, before)
        return found

    def test_one_demand(self):
        self.assertEqual(self.goal("ann"), ([("ann", [], [])], []))
        self.assertEqual(self.goal("anybody"), ([(None, [], [])], []))
        self.assertEqual(self.goal("ann with a"), ([("ann", ["a"], [])], []))
        self.assertEqual(self.goal("anybody with b a c"), ([(None, ["b", "a", "c"], [])], []))
        self.assertEqual(self.goal("ann without a"), ([("ann", [], ["a"])], []))
        self.assertEqual(self.goal("anybody with a without c b"), ([(None, ["a"], ["c", "b"])], []))

    def test_several_demands(self):
        self.assertEqual(self.goal("ann and bob"), ([("ann", [], []), ("bob", [], [])], []))
        self.assertEqual(self.goal("ann with a and anybody without b and cid with c d without e"),
                         ([("ann", ["a"], []), (None, [], ["b"]), ("cid", ["c", "d"], ["e"])], []))
        self.assertEqual(self.goal(" and ".join(["anybody with a"] * 7)), ([(None, ["a"], [])] * 7, []))

    def test_trusted_founders(self):
        self.assertEqual(self.goal("ann trusting bob"), ([("ann", [], [])], ["bob"]))
        self.assertEqual(self.goal("anybody with a without b trusting cid ann cid"), ([(None, ["a"], ["b"])], ["cid", "ann", "cid"]))
        self.assertEqual(self.goal("ann and anybody with a trusting bob"), ([("ann", [], []), (None, ["a"], [])], ["bob"]))
        self.assertEqual(self.goal("ann without a trusting bob"), ([("ann", [], ["a"])], ["bob"]))

    def test_the_kinds_of_the_parts(self):
        goal, trusted = self.goal("ann with a without b and anybody trusting bob")
        self.assertEqual([type(part) for part in (goal, trusted)], [list, list])
        for demand in goal:
            self.assertIs(type(demand), tuple)
            self.assertEqual([type(part) for part in demand[1:]], [list, list])
        self.assertIs(type(self.goal("ann")), tuple)
        self.assertIs(type(self.goal("ann")[1]), list)

    def test_rights_as_they_are_written(self):
        self.assertEqual(self.goal("ann with a a without a nil"), ([("ann", ["a", "a"], ["a", "nil"])], []))
        self.assertEqual(self.goal("ann and ann trusting ann"), ([("ann", [], []), ("ann", [], [])], ["ann"]))

    def test_words_of_commands_are_names(self):
        self.assertEqual(self.goal("ask with undo drop without done trusting answers"), ([("ask", ["undo", "drop"], ["done"])], ["answers"]))

    def test_no_goal(self):
        for line in ["", "and", "with", "with a", "without a", "trusting ann", "trusting", "ann bob", "ann anybody", "anybody ann",
                     "anybody anybody", "ann with", "ann without", "ann trusting", "ann and", "and ann", "ann and and bob",
                     "ann with without a", "ann with a without", "ann without with a", "ann without a with", "ann with trusting bob",
                     "ann without trusting bob", "ann with and bob", "ann without and bob", "ann and trusting bob", "ann with a and",
                     "ann without a with b", "ann with a with b", "ann without a without b", "ann with a without b with c",
                     "ann with a without b without c", "ann trusting bob trusting cid", "ann trusting bob and cid", "ann trusting bob with a",
                     "ann trusting bob without a", "ann trusting anybody", "ann with anybody", "ann without anybody", "trusting bob ann",
                     "with a ann", "ann a with b", "ann with a b with", "ann and bob cid", "ann and with a", "ann trusting trusting bob",
                     "ann trusting bob and", "bob ann with a", "ann trusting bob trusting", "ann and trusting"]:
            self.assertIsNone(self.goal(line), line)

    def test_strange_names(self):
        for word in NO_NAMES:
            for words in ([word], [word, "with", "a"], ["ann", "with", word], ["ann", "with", "a", word], ["ann", "with", word, "a"],
                          ["ann", "without", word], ["ann", "without", "a", word], ["ann", "trusting", word], ["ann", "trusting", "bob", word],
                          ["ann", "and", word], ["ann", "and", "bob", "with", word], ["ann", word], ["ann", "with", "a", "trusting", word, "bob"]):
                if words not in (["anybody"], ["anybody", "with", "a"], ["ann", "and", "anybody"]):
                    self.assertIsNone(goal_of(words), words)

    def test_names_of_twelve_characters(self):
        words = [LONG, "with", LONG, "without", LONG, "trusting", LONG]
        self.assertEqual(goal_of(words), ([(LONG, [LONG], [LONG])], [LONG]))

    def test_what_is_returned_is_new(self):
        words = ["ann", "with", "a", "trusting", "bob"]
        goal, trusted = goal_of(words)
        goal[0][1].append("z")
        trusted.append("z")
        self.assertEqual(words, ["ann", "with", "a", "trusting", "bob"])
        self.assertEqual(goal_of(words), ([("ann", ["a"], [])], ["bob"]))

    def test_all_rows_of_a_few_words(self):
        """The grammar, written down once more step by step."""
        for many in range(6):
            for words in itertools.product(["ann", "anybody", "with", "without", "and", "trusting"], repeat=many):
                self.assertEqual(goal_of(list(words)), self.read(list(words)), words)

    def test_drawn_rows_of_many_words(self):
        for seed in range(400):
            rng = random.Random(seed)
            words = []
            for at in range(rng.randint(1, 4)):
                words += ["and"] * (at > 0) + [rng.choice(["ann", "anybody"])]
                for sign in ("with", "without"):
                    words += rng.choice([[], [sign, "a"], [sign, "b", "a"]])
            words += rng.choice([[], ["trusting", "ann", "bob"]])
            self.assertIsNotNone(goal_of(words))
            self.assertEqual(goal_of(words), self.read(list(words)))
            at = rng.randrange(len(words))
            for other in (words[:at] + words[at + 1:], words[:at] + [rng.choice(["and", "with", "c", "without", "trusting"])] + words[at:]):
                self.assertEqual(goal_of(other), self.read(list(other)), other)

    def names(self, words):
        found = []
        while words and words[0] not in RESERVED and is_name(words[0]):
            found.append(words.pop(0))
        return found

    def read(self, words):
        goal, trusted = [], []
        while True:
            person = words.pop(0) if words else "and"
            if person != "anybody" and (person in RESERVED or not is_name(person)):
                return None
            lists = []
            for sign in ("with", "without"):
                lists.append([])
                if words[:1] == [sign]:
                    words.pop(0)
                    lists[-1] = self.names(words)
                    if not lists[-1]:
                        return None
            goal.append((None if person == "anybody" else person, *lists))
            if words[:1] != ["and"]:
                break
            words.pop(0)
        if words[:1] == ["trusting"]:
            words.pop(0)
            trusted = self.names(words)
            if not trusted:
                return None
        return None if words else (goal, trusted)


class Commands(unittest.TestCase):
    # Every form, with n for a name.
    FORMS = ["charter n", "cut n n", "drop n", "remove n", "undo", "redo", "answer n", "answers", "plan n", "show charters",
             "show questions", "print n", "ask n n n", "ask n n anybody", "ask n n n with n", "ask n n anybody without n n",
             "ask n n n with n n without n and anybody and n with n trusting n n", "ask n n n and n and n and n and n"]

    def test_every_form(self):
        for form in self.FORMS:
            for name in ("n", "club", LONG, "a0", "done", "rights", "ask", "charters", "undo"):
                words = [name if word == "n" else word for word in form.split(" ")]
                before = list(words)
                self.assertIs(is_command(words), True, words)
                self.assertEqual(words, before)

    def test_strange_names(self):
        for form in self.FORMS:
            words = form.split(" ")
            for at in [at for at in range(len(words)) if words[at] == "n"]:
                for name in NO_NAMES:
                    if words[0] != "ask" or name not in RESERVED:
                        self.assertIs(is_command([*words[:at], name, *words[at + 1:]]), False, (form, at, name))

    def test_words_that_are_no_names_in_a_question(self):
        for at, name in itertools.product((1, 2, 3, 5, 7), RESERVED):
            words = ["ask", "q", "club", "ann", "with", "a", "trusting", "bob"]
            words[at] = name
            self.assertIs(is_command(words), (at, name) == (3, "anybody"), words)

    def test_a_word_too_few_or_too_many(self):
        for form in self.FORMS[:12]:
            words = form.split(" ")
            if form != "undo" and form != "redo" and form != "answers":
                self.assertIs(is_command(words[:-1]), False, words[:-1])
            for more in ("n", "charters", "done", "and", ""):
                self.assertIs(is_command([*words, more]), False, [*words, more])
                self.assertIs(is_command([more, *words]), False)
        for words in (["ask"], ["ask", "q"], ["ask", "q", "club"], ["ask", "q", "club", "ann", "bob"], ["cut"], ["cut", "club"],
                      ["charter"], ["show"], ["show", "charter"], ["show", "rules"], ["show", "answers"], ["show", "questions", "charters"],
                      ["undo", "all"], ["answers", "q"], ["ask", "q", "club", "ann", "with"], ["ask", "q", "club", "with", "a"],
                      ["ask", "q", "club", "trusting", "ann"]):
            self.assertIs(is_command(words), False, words)

    def test_other_words(self):
        for words in (["done"], ["Undo"], ["UNDO"], ["undo\t"], ["\tundo"], ["charters"], ["rights", "a"], ["n"], [":"], ["Charter", "n"],
                      ["SHOW", "charters"], ["show", "Charters"], ["Ask", "q", "club", "ann"], ["define", "n"], ["anybody"], ["and"],
                      ["question", "q"], ["set", "n"], ["trusting", "n"]):
            self.assertIs(is_command(words), False, words)

    def test_the_goal_of_a_question_decides(self):
        for many in range(1, 4):
            for words in itertools.product(["ann", "anybody", "with", "without", "and", "trusting"], repeat=many):
                self.assertIs(is_command(["ask", "q", "club", *words]), goal_of(list(words)) is not None)

    def test_the_words_alone_decide(self):
        for line in ("ask q none zoe with nil with", "ask q none zoe with nil nil without nil", "ask q none " + " and ".join(["ann"] * 4)):
            self.assertIs(is_command(line.split(" ")), not line.endswith("with"))

    def test_the_words_stay_as_they_are(self):
        words = ["ask", "q", "club", "ann", "with", "a", "and", "anybody", "trusting", "bob"]
        before = copy.copy(words)
        is_command(words)
        goal_of(words)
        goal_of(words[3:])
        self.assertEqual(words, before)


if __name__ == "__main__":
    unittest.main()
