"""Certificates: texts that show without a search that a goal is reached, or that it never is."""

from whoevermay.charters import is_name
from whoevermay.errors import InvalidCertificate
from whoevermay.organisations import check_goal, check_trusted
from whoevermay.plans import action_of, check_plan, plan_lines
from whoevermay.reach import can_come, check_closed, closed_list
from whoevermay.wording import parted


def certificate(charter, goal, *, trusted=(), limit=2000):
    """The certificate that the goal is reached, or that it never is."""
    plan = can_come(charter, goal, trusted=trusted, limit=limit)
    if plan is None:
        word = "never"
        lines = _marking_lines(closed_list(charter, goal, trusted=trusted, limit=limit))
    else:
        word = "plan"
        lines = [f"do {line}" for line in plan_lines(plan.actions)]
    return "\n".join([word, *lines])


def _marking_lines(markings):
    """The lines that write the markings."""
    lines = []
    for marking in markings:
        lines.append("marking")
        for label, holds, lacks in marking:
            lines.append(" ".join(["slot", _label_word(label), ":", *holds, ":", *lacks]))
    return lines


def _label_word(label):
    """The word for the label of a slot."""
    if label is None:
        return "-"
    return "*" if label == "" else label


def check_certificate(charter, goal, text, *, trusted=()):
    """Whether the text is a certificate that is right for the charter, the goal and the trusted founders."""
    check_goal(charter, goal)
    check_trusted(charter, trusted)
    rows = [line.split(" ") for line in text.split("\n")]
    _check_form(rows)
    if rows[0] == ["plan"]:
        return check_plan(charter, goal, [action_of(row[1:]) for row in rows[1:]], trusted=trusted)
    markings = _markings(charter, rows[1:])
    return markings is not None and check_closed(charter, goal, markings, trusted=trusted)


def _check_form(rows):
    """Tell the first line that breaks its form."""
    if rows[0] not in (["never"], ["plan"]):
        raise InvalidCertificate(1)
    for at in range(1, len(rows)):
        if not _has_form(rows, at):
            raise InvalidCertificate(at + 1)


def _has_form(rows, at):
    """Whether the line at this index, behind the first one, may stand there if the lines ahead of it may."""
    row = rows[at]
    if rows[0] == ["plan"]:
        return row[0] == "do" and action_of(row[1:]) is not None
    # A slot stands behind some marking, and so never right behind the first line.
    return row == ["marking"] or (at > 1 and row[0] == "slot" and _are_slot_words(row[1:]))


def _are_slot_words(words):
    """Whether the words can stand behind the word `slot`."""
    ahead, *lists = parted(words, ":")
    if len(ahead) != 1 or len(lists) != 2:
        return False
    label_fits = ahead[0] in ("-", "*") or is_name(ahead[0])
    return label_fits and _are_names(lists[0]) and _are_names(lists[1])


def _are_names(words):
    """Whether all of the words are names."""
    return all(is_name(word) for word in words)


def _markings(charter, rows):
    """The markings of the lines, or None if one of them has a right or a person that the charter does not have."""
    markings = []
    for row in rows:
        if row == ["marking"]:
            markings.append([])
            continue
        slot = _slot(charter, row[1:])
        if slot is None:
            return None
        markings[-1].append(slot)
    return [tuple(marking) for marking in markings]


def _slot(charter, words):
    """The slot of the words, or None if they have a right or a person that the charter does not have."""
    ahead, holds, lacks = parted(words, ":")
    word = ahead[0]
    if not all(right in charter.rights for right in [*holds, *lacks]):
        return None
    if word not in ("-", "*") and word not in charter.founder_names:
        return None
    label = None if word == "-" else word
    return ("" if word == "*" else label, charter.ordered(holds), charter.ordered(lacks))
