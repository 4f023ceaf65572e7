"""Charters: rights, founders, and the rules by which rights move."""

from whoevermay.errors import InvalidCharter, UnknownName

LETTERS = "abcdefghijklmnopqrstuvwxyz"
SIGNS = "abcdefghijklmnopqrstuvwxyz0123456789"

# The kinds of rules, each with the number of its lists of rights.
LISTS = {"join": 1, "claim": 2, "drop": 2, "give": 3, "take": 3, "pass": 3}


def is_name(text):
    """Whether the string is a name."""
    if not 1 <= len(text) <= 12 or text[0] not in LETTERS:
        return False
    return all(sign in SIGNS for sign in text)


def _check_names(names, most):
    """Refuse too many names, strings that are no names, and names that stand twice."""
    if len(names) > most:
        raise InvalidCharter("too many of one sort")
    if not all(is_name(name) for name in names):
        raise InvalidCharter("a string that is no name")
    if len(set(names)) < len(names):
        raise InvalidCharter("a name stands twice")


def _listed(rights, words):
    """The list of rights as a tuple in the order of the rights."""
    if len(set(words)) < len(words):
        raise InvalidCharter("a right stands twice in a list")
    if not all(word in rights for word in words):
        raise InvalidCharter("a list with a strange right")
    return tuple([right for right in rights if right in words])


def _share(some, others):
    """Whether a right stands in both lists."""
    return any(right in others for right in some)


def _kept_founders(rights, sole, founders):
    """The founders as the charter keeps them."""
    kept = []
    for founder in founders:
        if len(founder) != 2:
            raise InvalidCharter("a founder is a name and a list of rights")
        kept.append((founder[0], _listed(rights, founder[1])))
    _check_names([founder[0] for founder in kept], 5)
    for right in sole:
        if len([founder for founder in kept if right in founder[1]]) > 1:
            raise InvalidCharter("two founders hold a sole right")
    return tuple(kept)


def _has_its_parts(rule):
    """Whether the rule is of a known kind and has as many parts as its kind."""
    if len(rule) == 0 or rule[0] not in LISTS:
        return False
    # A join has no right of its own.
    others = 2 if rule[0] == "join" else 3
    return len(rule) == LISTS[rule[0]] + others


def _kept_rule(rights, sole, rule):
    """The rule as the charter keeps it."""
    if not _has_its_parts(rule):
        raise InvalidCharter("a rule of no kind, or with another number of parts")
    if rule[0] == "join":
        held = _listed(rights, rule[2])
        if _share(held, sole):
            raise InvalidCharter("a sole right in a join")
        return ("join", rule[1], held)
    right = rule[-1]
    if right not in rights:
        raise InvalidCharter("a rule about a strange right")
    lists = [_listed(rights, words) for words in rule[2:-1]]
    _check_right(rule[0], lists, right, sole)
    return (rule[0], rule[1], *lists, right)


def _check_right(kind, lists, right, sole):
    """Refuse a right and lists that do not go together in a rule of this kind."""
    if kind in ("claim", "give") and right in sole:
        raise InvalidCharter("a rule would make a sole right anew")
    if kind == "pass" and (right not in sole or right in lists[0]):
        raise InvalidCharter("a pass of a shared right, or of one of its needs")
    # The last two lists are about one and the same person, whatever the kind.
    asked, lacks = lists[-2:]
    if _share(asked, lacks) or right in asked or right in lacks:
        raise InvalidCharter("a rule asks for a right twice")


def _put(rows, at, new):
    """The rows with the new one, in the place of the one with the same name at this index."""
    # A row that is too short has no name, and the charter that is made of the rows refuses it.
    if len(new) <= at or new[at] not in [row[at] for row in rows]:
        return [*rows, new]
    return [new if row[at] == new[at] else row for row in rows]


class Charter:
    """Rights, founders and rules. A charter does not change."""

    def __init__(self, *, rights, sole=(), founders=(), rules=()):
        self.rights = tuple(rights)
        if len(self.rights) == 0:
            raise InvalidCharter("no right")
        _check_names(self.rights, 6)
        self.sole = _listed(self.rights, sole)
        self.founders = _kept_founders(self.rights, self.sole, founders)
        self.rules = tuple([_kept_rule(self.rights, self.sole, rule) for rule in rules])
        _check_names(self.rule_names, 12)

    @property
    def shared(self):
        """The rights that are not sole, in order."""
        return tuple([right for right in self.rights if right not in self.sole])

    @property
    def founder_names(self):
        """The names of the founders, in order."""
        return tuple([founder[0] for founder in self.founders])

    @property
    def rule_names(self):
        """The names of the rules, in order."""
        return tuple([rule[1] for rule in self.rules])

    def rule(self, name):
        """The rule with this name."""
        for rule in self.rules:
            if rule[1] == name:
                return rule
        raise UnknownName(name)

    def founder(self, person):
        """The rights that this founder holds at the start."""
        for name, held in self.founders:
            if name == person:
                return held
        raise UnknownName(person)

    def ordered(self, words):
        """The rights of a list in the order of the charter, each once."""
        for word in words:
            if word not in self.rights:
                raise UnknownName(word)
        return tuple([right for right in self.rights if right in words])

    def with_rule(self, rule):
        """The charter with this rule, in the place of one with the same name."""
        rules = _put(self.rules, 1, rule)
        return Charter(rights=self.rights, sole=self.sole, founders=self.founders, rules=rules)

    def without_rules(self, names):
        """The charter without the rules with these names."""
        for name in names:
            if name not in self.rule_names:
                raise UnknownName(name)
        rules = [rule for rule in self.rules if rule[1] not in names]
        return Charter(rights=self.rights, sole=self.sole, founders=self.founders, rules=rules)

    def with_founder(self, person, held):
        """The charter with this founder, in the place of one with the same name."""
        founders = _put(self.founders, 0, (person, held))
        return Charter(rights=self.rights, sole=self.sole, founders=founders, rules=self.rules)
