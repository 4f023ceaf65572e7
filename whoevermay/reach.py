"""Whether a goal can be reached: plans, fewest steps, and lists of markings that show that it never is."""

from whoevermay.markings import Pile
from whoevermay.moves import moves_of
from whoevermay.organisations import check_goal, check_trusted
from whoevermay.search import Search
from whoevermay.slots import Coding


class Plan:
    """Actions that lead to a goal, and how many of them are no joins."""

    def __init__(self, actions, steps):
        self.actions = list(actions)
        self.steps = steps


def _searched(charter, goal, trusted, limit):
    """The search for a goal, behind all checks."""
    check_goal(charter, goal)
    check_trusted(charter, trusted)
    return Search(charter, goal, trusted, limit)


def can_come(charter, goal, *, trusted=(), limit=2000):
    """A plan with the fewest steps to the goal, or None if it is never reached."""
    search = _searched(charter, goal, trusted, limit)
    return Plan(search.retraced(), search.fewest()) if search.is_reached() else None


def fewest_steps(charter, goal, *, trusted=(), limit=2000):
    """The fewest steps to the goal, or None if it is never reached."""
    search = _searched(charter, goal, trusted, limit)
    return search.fewest() if search.is_reached() else None


def is_never(charter, goal, trusted, limit):
    """Whether the goal is never reached."""
    return not _searched(charter, goal, trusted, limit).is_reached()


def closed_list(charter, goal, *, trusted=(), limit=2000):
    """Markings that show that the goal is never reached, or None if it is reached."""
    search = _searched(charter, goal, trusted, limit)
    return None if search.is_reached() else search.told_markings()


def check_closed(charter, goal, markings, *, trusted=()):
    """Whether the markings show that the goal is never reached."""
    check_goal(charter, goal)
    check_trusted(charter, trusted)
    coding = Coding(charter, trusted)
    possible = _possible(coding, markings)
    if any(coding.founders_for(marking) is not None for marking in possible):
        return False
    pile = Pile()
    for marking in possible:
        pile.put(marking)
    goals = _possible(coding, [goal])
    return all(pile.has_below(marking) for marking in goals) and _is_closed(coding, possible, pile)


def _possible(coding, rows):
    """The markings, or a goal, in numbers and cleaned, without the impossible ones."""
    markings = [coding.coded(slots) for slots in rows]
    return [coding.cleaned(slots) for slots in markings if not coding.is_impossible(slots)]


def _is_closed(coding, markings, pile):
    """Whether a marking of the pile lies below each way back from each of the markings."""
    moves = moves_of(coding)
    for marking in markings:
        for move in moves:
            for earlier, _, _ in move.ways_back(marking):
                if not pile.has_below(earlier):
                    return False
    return True
