"""Amendments: what can be held by one charter and not by another one."""

from whoevermay.errors import InvalidQuestion
from whoevermay.reach import is_never
from whoevermay.subsets import has_part, subsets


def newly_held(old, new, *, trusted=(), limit=2000):
    """The least sets of rights that somebody can come to hold by the new charter, and nobody by the old one."""
    if old.rights != new.rights or old.sole != new.sole:
        raise InvalidQuestion("two charters with other rights")
    found = []
    # The sets that nobody can come to hold by the new charter, as far as they were asked for.
    never_held = []
    # The first set is empty, and so none to ask for.
    for some in subsets(new.rights, len(new.rights))[1:]:
        if has_part(some, [*found, *never_held]):
            continue
        goal = [(None, some, ())]
        if is_never(new, goal, trusted, limit):
            never_held.append(some)
        elif is_never(old, goal, trusted, limit):
            found.append(some)
    return found


def no_longer_held(old, new, *, trusted=(), limit=2000):
    """The least sets of rights that somebody can come to hold by the old charter, and nobody by the new one."""
    return newly_held(new, old, trusted=trusted, limit=limit)


def opened_by(charter, rule, *, trusted=(), limit=2000):
    """The least sets of rights that nobody can come to hold before the charter has this rule, too."""
    # A rule of fewer than two parts has no name that could be there, and the charter refuses it.
    if len(rule) > 1 and rule[1] in charter.rule_names:
        raise InvalidQuestion("a rule of this name is there already")
    return newly_held(charter, charter.with_rule(rule), trusted=trusted, limit=limit)


def closed_by(charter, name, *, trusted=(), limit=2000):
    """The least sets of rights that nobody can come to hold if the charter does not have the rule of this name."""
    return newly_held(charter.without_rules([name]), charter, trusted=trusted, limit=limit)
