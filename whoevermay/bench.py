"""Workbenches: charters and questions under names, changes that can be undone, and answers that are kept."""

from whoevermay.errors import (InvalidGoal, NameInUse, NothingToRedo, NothingToUndo, TooMany, UnknownName,
                               WhoevermayError)
from whoevermay.organisations import check_goal, check_trusted
from whoevermay.reach import fewest_steps


def decide(charter, goal, *, trusted=(), limit=2000):
    """Whether the goal can be reached, as a tuple of a word and what belongs to it."""
    try:
        steps = fewest_steps(charter, goal, trusted=trusted, limit=limit)
    except (UnknownName, InvalidGoal):
        return ("unfit",)
    except TooMany as many:
        return ("many", many.limit)
    return ("never",) if steps is None else ("comes", steps)


def _get(table, name):
    """What stands in the table under the name."""
    if name not in table:
        raise UnknownName(name)
    return table[name]


def _put(table, name, thing):
    """Let the thing stand in the table under the name, or nothing if it is None."""
    if thing is None:
        del table[name]
    else:
        table[name] = thing


class Workbench:
    """Charters and questions under names."""

    def __init__(self):
        self.decided = 0
        self.kept = 0
        # Each charter stands behind the number of its definition, as the same charter may be defined anew.
        self._charters = {}
        self._definitions = 0
        self._questions = {}
        self._answers = {}
        # A change is a tuple of the table, the name, and what stood there before and behind it, None for nothing.
        self._made = []
        self._undone = []

    def _change(self, table, name, thing):
        """Make a change that nothing stands against any more."""
        self._made.append((table, name, table.get(name), thing))
        self._undone = []
        _put(table, name, thing)

    def set_charter(self, name, charter):
        """Define the charter under the name."""
        self._definitions += 1
        self._change(self._charters, name, (self._definitions, charter))

    def remove_charter(self, name):
        """Remove the charter, which no question may be about."""
        _get(self._charters, name)
        if name in [question[0] for question in self._questions.values()]:
            raise NameInUse(name)
        self._change(self._charters, name, None)

    def set_rule(self, name, rule):
        """Define the charter with this rule under its name."""
        self.set_charter(name, self.charter(name).with_rule(rule))

    def remove_rule(self, name, rule_name):
        """Define the charter without this rule under its name."""
        self.set_charter(name, self.charter(name).without_rules([rule_name]))

    def ask(self, name, *, charter, goal, trusted=()):
        """Define the question whether the charter of this name, with these trusted founders, can come to the goal."""
        asked = self.charter(charter)
        check_goal(asked, goal)
        check_trusted(asked, trusted)
        demands = [(person, asked.ordered(holds), asked.ordered(lacks)) for person, holds, lacks in goal]
        self._change(self._questions, name, (charter, tuple(demands), tuple(trusted)))

    def drop(self, name):
        """Remove the question."""
        _get(self._questions, name)
        self._change(self._questions, name, None)

    def undo(self):
        """Take back the last change."""
        if len(self._made) == 0:
            raise NothingToUndo("no change to take back")
        change = self._made.pop()
        table, name, before, _ = change
        _put(table, name, before)
        self._undone.append(change)

    def redo(self):
        """Make the change again that was taken back last."""
        if len(self._undone) == 0:
            raise NothingToRedo("no change to make again")
        change = self._undone.pop()
        table, name, _, behind = change
        _put(table, name, behind)
        self._made.append(change)

    def change_all(self, changes):
        """Make all of the changes, or none of them if one is not possible."""
        many = len(self._made)
        undone = list(self._undone)
        try:
            for change in changes:
                self._make(change)
        except WhoevermayError:
            while len(self._made) > many:
                self.undo()
            self._undone = undone
            raise

    def _make(self, change):
        """Make a change that is written as a tuple."""
        word, name, *rest = change
        if word == "set_charter":
            self.set_charter(name, rest[0])
        if word == "remove_charter":
            self.remove_charter(name)
        if word == "set_rule":
            self.set_rule(name, rest[0])
        if word == "remove_rule":
            self.remove_rule(name, rest[0])
        if word == "ask":
            self.ask(name, charter=rest[0], goal=rest[1], trusted=rest[2])
        if word == "drop":
            self.drop(name)

    def charter_names(self):
        """The names of the charters in ascending order."""
        return sorted(self._charters)

    def question_names(self):
        """The names of the questions in ascending order."""
        return sorted(self._questions)

    def charter(self, name):
        """The charter of this name."""
        return _get(self._charters, name)[1]

    def question(self, name):
        """The name of the charter, the goal and the trusted founders of a question."""
        return _get(self._questions, name)

    def answer(self, name):
        """The answer of a question, which is computed once for all questions that come to the same."""
        charter_name, goal, trusted = self.question(name)
        number, charter = self._charters[charter_name]
        key = (number, goal, tuple(sorted(set(trusted))))
        if key in self._answers:
            self.kept += 1
        else:
            self._answers[key] = decide(charter, goal, trusted=trusted)
            self.decided += 1
        return self._answers[key]

    def answers(self):
        """The answers of all questions, each behind the name of its question."""
        return [(name, self.answer(name)) for name in self.question_names()]
