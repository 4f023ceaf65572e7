"""Questions that several searches answer: who can come to what, and which rules and founders it takes."""

from whoevermay.errors import InvalidQuestion
from whoevermay.organisations import check_goal, check_trusted
from whoevermay.reach import is_never
from whoevermay.roles import roles
from whoevermay.subsets import has_part, subsets
from whoevermay.terms import TARGETED, actor_terms, target_terms


def check_most(most):
    """Refuse a greatest number that is out of bounds."""
    if not 1 <= most <= 3:
        raise InvalidQuestion("a greatest number that is not from 1 to 3")


def who_can(charter, right, *, trusted=(), limit=2000):
    """The names of the founders who can come to the right."""
    rights = charter.ordered((right,))
    check_trusted(charter, trusted)
    return [name for name in charter.founder_names if not is_never(charter, [(name, rights, ())], trusted, limit)]


def together(charter, *, trusted=(), limit=2000):
    """The pairs of rights that can come together in one person."""
    check_trusted(charter, trusted)
    pairs = [some for some in subsets(charter.rights, 2) if len(some) == 2]
    return [pair for pair in pairs if not is_never(charter, [(None, pair, ())], trusted, limit)]


def reachable_types(charter, *, trusted=(), limit=2000):
    """The sets of rights such that somebody can come to hold just these."""
    return [role for role, _ in roles(charter, trusted=trusted, limit=limit)]


def needed_rules(charter, goal, *, trusted=(), limit=2000):
    """The names of the rules without which the goal is never reached, or None if it never is anyway."""
    if is_never(charter, goal, trusted, limit):
        return None
    return [name for name in charter.rule_names if is_never(charter.without_rules([name]), goal, trusted, limit)]


def cuts(charter, goal, *, most=2, trusted=(), limit=2000):
    """The least sets of rules without which the goal is never reached."""
    check_goal(charter, goal)
    check_most(most)
    check_trusted(charter, trusted)

    def is_cut(names):
        return is_never(charter.without_rules(names), goal, trusted, limit)

    return _least_sets(list(charter.rule_names), most, is_cut)


def trust_cuts(charter, goal, *, most=2, trusted=(), limit=2000):
    """The least sets of founders such that the goal is never reached if they are trusted, too."""
    check_goal(charter, goal)
    check_most(most)
    check_trusted(charter, trusted)

    def is_cut(names):
        return is_never(charter, goal, [*trusted, *names], limit)

    return _least_sets([name for name in charter.founder_names if name not in trusted], most, is_cut)


def _least_sets(names, most, is_cut):
    """The sets of at most so many names that are cuts and contain no smaller cut, the empty set among them."""
    found = []
    for some in subsets(names, most):
        if not has_part(some, found) and is_cut(some):
            found.append(some)
    return found


def idle_rules(charter, *, limit=2000):
    """The names of the rules, joins aside, that nobody can ever use."""
    rules = [rule for rule in charter.rules if rule[0] != "join"]
    return [rule[1] for rule in rules if is_never(charter, _use_of(rule), (), limit)]


def _use_of(rule):
    """The goal that somebody, and somebody else where there is a target, can use the rule."""
    holds, lacks = actor_terms(rule)
    demands = [(None, holds, lacks)]
    if rule[0] in TARGETED:
        holds, lacks = target_terms(rule)
        demands.append((None, holds, lacks))
    return demands
