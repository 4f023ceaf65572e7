"""Sets of names, given as tuples in the order of the names."""

from itertools import combinations


def subsets(names, most):
    """The sets of at most so many of the names: smaller ones first, then those that have the earlier names."""
    rows = list(names)
    return [some for many in range(most + 1) for some in combinations(rows, many)]


def has_part(names, parts):
    """Whether all names of one of the parts are among the names."""
    return any(_is_part(part, names) for part in parts)


def _is_part(part, names):
    """Whether all names of the part are among the names."""
    return all(name in names for name in part)
