"""Roles: the sets of rights that somebody can hold and nothing else."""

from whoevermay.errors import InvalidQuestion
from whoevermay.organisations import check_trusted
from whoevermay.reach import can_come, fewest_steps
from whoevermay.subsets import subsets


def all_roles(charter):
    """All roles: those with fewer rights first, then those with the earlier rights."""
    return subsets(charter.rights, len(charter.rights))


def _goal_of(charter, role, person):
    """The goal that this person, or anybody, has the role."""
    others = [right for right in charter.rights if right not in role]
    return [(person, role, others)]


def _checked(charter, role):
    """The role in the order of the charter; refuse what is no role."""
    rights = charter.ordered(role)
    if len(rights) < len(role):
        raise InvalidQuestion("a right stands twice in a role")
    return rights


def _with_steps(charter, person, trusted, limit):
    """All roles, each with its fewest steps, or with None if it cannot be come to."""
    rows = []
    for role in all_roles(charter):
        rows.append((role, fewest_steps(charter, _goal_of(charter, role, person), trusted=trusted, limit=limit)))
    return rows


def roles(charter, *, person=None, trusted=(), limit=2000):
    """The roles that somebody, or this founder, can come to, each with its fewest steps."""
    return [row for row in _with_steps(charter, person, trusted, limit) if row[1] is not None]


def missing_roles(charter, *, person=None, trusted=(), limit=2000):
    """The roles that nobody, or not this founder, can come to."""
    return [role for role, steps in _with_steps(charter, person, trusted, limit) if steps is None]


def role_plan(charter, role, *, person=None, trusted=(), limit=2000):
    """A plan with the fewest steps by which somebody, or this founder, comes to the role, or None."""
    goal = _goal_of(charter, _checked(charter, role), person)
    return can_come(charter, goal, trusted=trusted, limit=limit)


def strange_role(charter, allowed, *, trusted=(), limit=2000):
    """The first role that is not allowed and that somebody can come to, with its fewest steps, or None."""
    fine = [_checked(charter, role) for role in allowed]
    # If all roles are allowed, no search looks at the trusted founders.
    check_trusted(charter, trusted)
    for role in all_roles(charter):
        if role not in fine:
            steps = fewest_steps(charter, _goal_of(charter, role, None), trusted=trusted, limit=limit)
            if steps is not None:
                return (role, steps)
    return None
