"""The commands of a session, as far as their words go."""

from whoevermay.charters import is_name
from whoevermay.wording import parted

RESERVED = ("and", "with", "without", "trusting", "anybody")

# The commands that have one form, each with the number of its names.
NAMES = {"charter": 1, "cut": 2, "drop": 1, "remove": 1, "undo": 0, "redo": 0, "answer": 1, "answers": 0, "plan": 1,
         "print": 1}

SHOWN = ("charters", "questions")


def split_words(line):
    """The words of the line."""
    return [word for word in line.split(" ") if word != ""]


def _are_names(words):
    """Whether all of the words can be names in a command."""
    return all(is_name(word) and word not in RESERVED for word in words)


def _names_behind(words, sign):
    """The words ahead of the sign and the names behind it, none without the sign; None if other words are behind it."""
    ahead, *behind = parted(words, sign)
    if len(behind) == 0:
        return ahead, []
    names = behind[0]
    if len(behind) > 1 or len(names) == 0 or not _are_names(names):
        return None
    return ahead, names


def goal_of(words):
    """The goal and the trusted founders that the words write, or None."""
    parts = _names_behind(words, "trusting")
    if parts is None:
        return None
    ahead, trusted = parts
    goal = [_demand_of(demand) for demand in parted(ahead, "and")]
    return None if None in goal else (goal, trusted)


def _demand_of(words):
    """The demand that the words write, or None."""
    parts = _names_behind(words, "without")
    if parts is None:
        return None
    ahead, lacks = parts
    parts = _names_behind(ahead, "with")
    if parts is None:
        return None
    person, holds = parts
    if person == ["anybody"]:
        return (None, holds, lacks)
    return (person[0], holds, lacks) if len(person) == 1 and _are_names(person) else None


def is_command(words):
    """Whether the words are a command."""
    first, *rest = words
    if first == "ask":
        return _are_names(rest[:2]) and goal_of(rest[2:]) is not None
    if first == "show":
        return len(rest) == 1 and rest[0] in SHOWN
    return first in NAMES and len(rest) == NAMES[first] and _are_names(rest)
