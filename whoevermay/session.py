"""Sessions: workbenches that are used by lines of text."""

from whoevermay.bench import Workbench
from whoevermay.commands import goal_of, is_command, split_words
from whoevermay.errors import (InvalidCharter, InvalidGoal, InvalidNotation, NameInUse, NothingToRedo, NothingToUndo,
                               UnknownName)
from whoevermay.notation import format_charter, parse_charter
from whoevermay.plans import plan_lines
from whoevermay.reach import can_come

# The commands that change what stands on the bench at once.
CHANGING = ("cut", "ask", "drop", "remove", "undo", "redo")


def _change(bench, words):
    """Make the change that the command tells."""
    first = words[0]
    if first == "cut":
        bench.remove_rule(words[1], words[2])
    if first == "ask":
        goal, trusted = goal_of(words[3:])
        bench.ask(words[1], charter=words[2], goal=goal, trusted=trusted)
    if first == "drop":
        bench.drop(words[1])
    if first == "remove":
        bench.remove_charter(words[1])
    if first == "undo":
        bench.undo()
    if first == "redo":
        bench.redo()


def _answer_line(name, answer):
    """The line that tells the answer of a question."""
    words = [str(part) for part in answer]
    return " ".join([f"{name}:", *words])


def _plan_lines(bench, name):
    """The line that tells the answer of a question, and the lines of the plan if there is one."""
    answer = bench.answer(name)
    lines = [_answer_line(name, answer)]
    if answer[0] == "comes":
        charter_name, goal, trusted = bench.question(name)
        plan = can_come(bench.charter(charter_name), goal, trusted=trusted)
        lines.extend(plan_lines(plan.actions))
    return lines


def _told(bench, words):
    """The lines that the command asks for."""
    first = words[0]
    if first == "answer":
        return [_answer_line(words[1], bench.answer(words[1]))]
    if first == "answers":
        return [_answer_line(name, answer) for name, answer in bench.answers()]
    if first == "plan":
        return _plan_lines(bench, words[1])
    if first == "show":
        names = bench.charter_names() if words[1] == "charters" else bench.question_names()
        return [" ".join([f"{words[1]}:", *names])]
    return format_charter(bench.charter(words[1])).split("\n")


class Session:
    """A workbench, and the block of a charter that may be under way."""

    def __init__(self):
        self.bench = Workbench()
        # The name of the charter whose block is under way, or None, and the lines that were taken in it.
        self._block = None
        self._lines = []

    def run(self, text):
        """The lines that the lines of the text answer."""
        told = []
        for at, line in enumerate(text.split("\n")):
            words = split_words(line)
            if len(words) > 0:
                told.extend(self._answered(at + 1, words))
        return told

    def _answered(self, number, words):
        """The lines that the line of this number answers."""
        if self._block is None and not is_command(words):
            return [f"line {number}: invalid command"]
        try:
            return self._carried_out(words)
        except UnknownName as unknown:
            fault = f"unknown name {unknown.name}"
        except NameInUse as used:
            fault = f"name in use {used.name}"
        except InvalidNotation as broken:
            fault = f"invalid notation {broken.line}"
        except InvalidCharter:
            fault = "invalid charter"
        except InvalidGoal:
            fault = "invalid goal"
        except NothingToUndo:
            fault = "nothing to undo"
        except NothingToRedo:
            fault = "nothing to redo"
        return [f"line {number}: {fault}"]

    def _carried_out(self, words):
        """Do what the words say; the lines that they answer."""
        if self._block is not None:
            return self._taken(words)
        if words[0] == "charter":
            self._block = words[1]
            self._lines = []
            return ["ok"]
        if words[0] in CHANGING:
            _change(self.bench, words)
            return ["ok"]
        return _told(self.bench, words)

    def _taken(self, words):
        """Take a line of the block, or close the block and set its charter."""
        if words != ["done"]:
            self._lines.append(" ".join(words))
            return []
        name = self._block
        self._block = None
        self.bench.set_charter(name, parse_charter("\n".join(self._lines)))
        return ["ok"]
