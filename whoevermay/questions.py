"""Questions that several searches answer: who can come to what, and which rules and founders it takes."""

from itertools import combinations

from whoevermay.errors import InvalidQuestion
from whoevermay.organisations import check_goal, check_trusted
from whoevermay.reach import can_come
from whoevermay.terms import TARGETED, actor_terms, target_terms


def _never(charter, goal, trusted, limit):
    """Whether the goal is never reached."""
    return can_come(charter, goal, trusted=trusted, limit=limit) is None


def who_can(charter, right, *, trusted=(), limit=2000):
    """The names of the founders who can come to the right."""
    rights = charter.ordered((right,))
    check_trusted(charter, trusted)
    return [name for name in charter.founder_names if not _never(charter, [(name, rights, ())], trusted, limit)]


def together(charter, *, trusted=(), limit=2000):
    """The pairs of rights that can come together in one person."""
    check_trusted(charter, trusted)
    rights = list(charter.rights)
    pairs = []
    for pair in combinations(rights, 2):
        if not _never(charter, [(None, pair, ())], trusted, limit):
            pairs.append(pair)
    return pairs


def reachable_types(charter, *, trusted=(), limit=2000):
    """The sets of rights such that somebody can come to hold just these."""
    check_trusted(charter, trusted)
    rights = list(charter.rights)
    found = []
    for many in range(len(rights) + 1):
        for some in combinations(rights, many):
            others = [right for right in rights if right not in some]
            if not _never(charter, [(None, some, others)], trusted, limit):
                found.append(some)
    return found


def needed_rules(charter, goal, *, trusted=(), limit=2000):
    """The names of the rules without which the goal is never reached, or None if it never is anyway."""
    if _never(charter, goal, trusted, limit):
        return None
    return [name for name in charter.rule_names if _never(charter.without_rules([name]), goal, trusted, limit)]


def cuts(charter, goal, *, most=2, trusted=(), limit=2000):
    """The least sets of rules without which the goal is never reached."""
    check_goal(charter, goal)
    _check_most(most)
    check_trusted(charter, trusted)

    def is_cut(names):
        return _never(charter.without_rules(names), goal, trusted, limit)

    return _least_sets(list(charter.rule_names), most, is_cut)


def trust_cuts(charter, goal, *, most=2, trusted=(), limit=2000):
    """The least sets of founders such that the goal is never reached if they are trusted, too."""
    check_goal(charter, goal)
    _check_most(most)
    check_trusted(charter, trusted)

    def is_cut(names):
        return _never(charter, goal, [*trusted, *names], limit)

    return _least_sets([name for name in charter.founder_names if name not in trusted], most, is_cut)


def _check_most(most):
    """Refuse a greatest number that is out of bounds."""
    if not 1 <= most <= 3:
        raise InvalidQuestion("a greatest number that is not from 1 to 3")


def _least_sets(names, most, is_cut):
    """The sets of at most so many names that are cuts and contain no smaller cut, the empty set among them."""
    found = []
    for many in range(most + 1):
        for some in combinations(names, many):
            if not any(_contains(some, cut) for cut in found) and is_cut(some):
                found.append(some)
    return found


def _contains(names, part):
    """Whether all names of the part are among the names."""
    return all(name in names for name in part)


def idle_rules(charter, *, limit=2000):
    """The names of the rules, joins aside, that nobody can ever use."""
    rules = [rule for rule in charter.rules if rule[0] != "join"]
    return [rule[1] for rule in rules if _never(charter, _use_of(rule), (), limit)]


def _use_of(rule):
    """The goal that somebody, and somebody else where there is a target, can use the rule."""
    holds, lacks = actor_terms(rule)
    demands = [(None, holds, lacks)]
    if rule[0] in TARGETED:
        holds, lacks = target_terms(rule)
        demands.append((None, holds, lacks))
    return demands
