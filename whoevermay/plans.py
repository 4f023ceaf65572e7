"""Plans for goals: checking and shortening them, what is told of them, and their written form."""

from whoevermay.charters import is_name
from whoevermay.errors import InvalidAction, InvalidNotation
from whoevermay.organisations import check_goal, check_trusted, run


def check_plan(charter, goal, actions, *, trusted=()):
    """Whether the actions are a plan for the goal."""
    check_goal(charter, goal)
    check_trusted(charter, trusted)
    try:
        organisation = run(charter, actions, trusted=trusted)
    except InvalidAction:
        return False
    return organisation.meets(goal)


def shortened(charter, goal, actions):
    """The actions that are left when the first needless one is left out, as long as there is one."""
    check_goal(charter, goal)
    left = list(actions)
    at = _first_needless(charter, goal, left)
    while at is not None:
        left.pop(at)
        at = _first_needless(charter, goal, left)
    return left


def _first_needless(charter, goal, actions):
    """The place of the first action without which the others are a plan, or None."""
    for at in range(len(actions)):
        if check_plan(charter, goal, actions[:at] + actions[at + 1:]):
            return at
    return None


def _is_join(charter, action):
    """Whether the action is done by a join rule."""
    return charter.rule(action[0])[0] == "join"


def steps_of(charter, actions):
    """The number of the actions that are no joins."""
    return len([action for action in actions if not _is_join(charter, action)])


def taking_part(charter, actions):
    """The names of all actors and targets in the order in which they first appear."""
    names = []
    for _, actor, target in actions:
        for name in (actor, target):
            if name is not None and name not in names:
                names.append(name)
    return names


def joins_first(charter, actions):
    """The actions with all joins ahead of all others."""
    run(charter, actions)
    joins = [action for action in actions if _is_join(charter, action)]
    return joins + [action for action in actions if not _is_join(charter, action)]


def plan_lines(actions):
    """The lines of the written form of the actions."""
    lines = []
    for name, actor, target in actions:
        words = [name, actor] if target is None else [name, actor, target]
        lines.append(" ".join(words))
    return lines


def plan_text(actions):
    """The written form of the actions."""
    return "\n".join(plan_lines(actions))


def action_of(words):
    """The action of the words of a line, or None if they are no line of a written form."""
    if len(words) not in (2, 3) or not all(is_name(word) for word in words):
        return None
    return (words[0], words[1], words[2] if len(words) == 3 else None)


def parse_plan(text):
    """The actions whose written form is the text."""
    # No action has the empty text, while a line has at least two words.
    if text == "":
        return []
    actions = [action_of(line.split(" ")) for line in text.split("\n")]
    if None in actions:
        raise InvalidNotation(actions.index(None) + 1)
    return actions
