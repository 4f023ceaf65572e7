"""Questions about crowds: how many can hold a right at once, which founders a goal needs, and steps to many goals."""

from whoevermay.charters import Charter
from whoevermay.organisations import check_goal, check_trusted
from whoevermay.questions import check_most
from whoevermay.reach import fewest_steps, is_never


def most_at_once(charter, right, *, most=3, trusted=(), limit=2000):
    """How many people can hold the right at once, as far as `most`."""
    rights = charter.ordered((right,))
    check_most(most)
    for many in range(1, most + 1):
        if is_never(charter, [(None, rights, ())] * many, trusted, limit):
            return many - 1
    return most


def needed_founders(charter, goal, *, trusted=(), limit=2000):
    """The names of the founders whom the goal names or cannot do without, or None if it is never reached anyway."""
    if is_never(charter, goal, trusted, limit):
        return None
    named = [demand[0] for demand in goal]
    needed = []
    for name in charter.founder_names:
        others = [one for one in trusted if one != name]
        if name in named or is_never(_without_founder(charter, name), goal, others, limit):
            needed.append(name)
    return needed


def _without_founder(charter, name):
    """The charter without this founder."""
    founders = [founder for founder in charter.founders if founder[0] != name]
    return Charter(rights=charter.rights, sole=charter.sole, founders=founders, rules=charter.rules)


def least_steps(charter, goals, *, trusted=(), limit=2000):
    """The fewest steps to each of the goals, None for one that is never reached."""
    for goal in goals:
        check_goal(charter, goal)
    check_trusted(charter, trusted)
    return [fewest_steps(charter, goal, trusted=trusted, limit=limit) for goal in goals]
