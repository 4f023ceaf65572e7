"""The written form of charters."""

from whoevermay.charters import LISTS, Charter, is_name
from whoevermay.errors import InvalidNotation
from whoevermay.wording import parted


def format_charter(charter):
    """The written form of a charter."""
    rows = [["rights", *charter.rights], ["sole", *charter.sole]]
    for person, held in charter.founders:
        rows.append(["founder", person, ":", *held])
    for rule in charter.rules:
        rows.append(_rule_words(rule))
    return "\n".join([" ".join(row) for row in rows])


def _rule_words(rule):
    """The words of the line of a rule."""
    words = [rule[0], rule[1]]
    lists = rule[2:]
    if rule[0] != "join":
        words.append(rule[-1])
        lists = rule[2:-1]
    for rights in lists:
        words.append(":")
        words.extend(rights)
    return words


def parse_charter(text):
    """The charter whose written form is the text, whatever the order of the rights in a list."""
    rows = [line.split(" ") for line in text.split("\n")]
    _check_form(rows)
    founders = []
    rules = []
    for row in rows[2:]:
        ahead, *lists = parted(row[1:], ":")
        # Founders and joins have no right behind their name.
        name, *right = ahead
        if row[0] == "founder":
            founders.append((name, lists[0]))
        else:
            rules.append((row[0], name, *lists, *right))
    return Charter(rights=rows[0][1:], sole=rows[1][1:], founders=founders, rules=rules)


def _check_form(rows):
    """Tell the first line that cannot stand where it stands."""
    for at, row in enumerate(rows):
        if row[0] not in _first_words(rows, at) or not _has_form(row):
            raise InvalidNotation(at + 1)
    if len(rows) == 1:
        raise InvalidNotation(2)


def _first_words(rows, at):
    """The words that may begin the line at this index, if the lines ahead of it may stand."""
    if at == 0:
        return ["rights"]
    if at == 1:
        return ["sole"]
    if rows[at - 1][0] in LISTS:
        return list(LISTS)
    return ["founder"] + list(LISTS)


def _has_form(row):
    """Whether the line, which begins with a known word, has the form of its kind."""
    groups = parted(row[1:], ":")
    if not all(is_name(word) for group in groups for word in group):
        return False
    if row[0] in ("rights", "sole"):
        return len(groups) == 1
    lists = 1 if row[0] == "founder" else LISTS[row[0]]
    ahead = 1 if row[0] in ("founder", "join") else 2
    return len(groups) == 1 + lists and len(groups[0]) == ahead
