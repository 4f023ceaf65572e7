"""Ledgers: grants of rights that are taken back with all that came through them."""

from whoevermay.charters import is_name
from whoevermay.errors import InvalidEntry, UnknownName


def _but(numbers, others):
    """The numbers that are none of the others."""
    known = set(others)
    return [number for number in numbers if number not in known]


class Grant:
    """An entry of a ledger."""

    def __init__(self, giver, receiver, right, may_pass):
        self.giver = giver
        self.receiver = receiver
        self.right = right
        self.may_pass = may_pass


class Ledger:
    """Rights with their owners, and the grants by which others hold them."""

    def __init__(self, owners):
        self.owners = tuple([(right, owner) for right, owner in owners])
        if not all(is_name(right) and is_name(owner) for right, owner in self.owners):
            raise InvalidEntry("a string that is no name")
        self._owner_of = dict(self.owners)
        if len(self._owner_of) < len(self.owners):
            raise InvalidEntry("a right stands twice")
        self._grants = []
        # Whether each of the grants is taken back now, and the numbers of those that stand.
        self._removed = []
        self._standing = []

    @property
    def grants(self):
        """All grants in their order, also those that were taken back."""
        return [Grant(one.giver, one.receiver, one.right, one.may_pass) for one in self._grants]

    @property
    def taken_back(self):
        """The numbers of the grants that are taken back now."""
        return [number for number, removed in enumerate(self._removed) if removed]

    def owner(self, right):
        """The name of the owner of the right."""
        if right not in self._owner_of:
            raise UnknownName(right)
        return self._owner_of[right]

    def standing(self):
        """The numbers of the grants that stand."""
        return list(self._standing)

    def _standing_of(self, right):
        """The numbers of the grants of the right that stand."""
        return [number for number in self._standing if self._grants[number].right == right]

    def holds(self, person, right):
        """Whether the person holds the right."""
        return person in self.holders(right)

    def may_pass(self, person, right):
        """Whether the person may hand the right on."""
        if self.owner(right) == person:
            return True
        rows = [self._grants[number] for number in self._standing_of(right)]
        return any(row.receiver == person and row.may_pass for row in rows)

    def holders(self, right):
        """The names of those who hold the right: the owner, then the others in the order in which they first got it."""
        names = {self.owner(right): True}
        for number in self._standing_of(right):
            names[self._grants[number].receiver] = True
        return list(names)

    def grant(self, giver, receiver, right, *, may_pass=False):
        """Enter a grant; its number."""
        can_pass = self.may_pass(giver, right)
        if not is_name(receiver) or receiver == giver or not can_pass:
            raise InvalidEntry("a grant that cannot be entered")
        number = len(self._grants)
        self._grants.append(Grant(giver, receiver, right, may_pass))
        self._removed.append(False)
        # It is the last one of a replay, and its giver may hand the right on.
        self._standing.append(number)
        return number

    def _replayed(self, removed):
        """The numbers of the grants that stand if it is told for each of them whether it is taken back."""
        passing = {(owner, right): True for right, owner in self.owners}
        numbers = []
        for number, row in enumerate(self._grants):
            if not removed[number] and (row.giver, row.right) in passing:
                numbers.append(number)
                if row.may_pass:
                    passing[(row.receiver, row.right)] = True
        return numbers

    def _without(self, number):
        """The numbers of the grants that stand if this one, which stands, is taken back, too."""
        if number not in self._standing:
            raise InvalidEntry("no grant that stands has this number")
        removed = list(self._removed)
        removed[number] = True
        return self._replayed(removed)

    def take_back(self, number):
        """Take the grant back; the numbers of the grants that do not stand any more."""
        left = self._without(number)
        fallen = _but(self._standing, left)
        self._removed[number] = True
        self._standing = left
        return fallen

    def restore(self, number):
        """Restore the grant; the numbers of the grants that stand again."""
        if number not in self.taken_back:
            raise InvalidEntry("no grant that is taken back has this number")
        before = self._standing
        self._removed[number] = False
        self._standing = self._replayed(self._removed)
        return _but(self._standing, before)

    def _receivers(self, numbers):
        """The receivers of these grants with the rights, in the order of the first grant of each, in a dict of True."""
        return {(self._grants[number].receiver, self._grants[number].right): True for number in numbers}

    def would_lose(self, number):
        """Who would not hold which right any more if the grant were taken back."""
        left = self._receivers(self._without(number))
        lost = []
        for person, right in self._receivers(self._standing):
            if (person, right) not in left and self.owner(right) != person:
                lost.append((person, right))
        return lost

    def chains(self, person, right):
        """The lists of numbers of grants by which the right came from its owner to the person."""
        owner = self.owner(right)
        numbers = self._standing_of(right)
        found = []
        ends = [[number] for number in numbers if self._grants[number].receiver == person]
        while len(ends) > 0:
            end = ends.pop()
            giver = self._grants[end[0]].giver
            if giver == owner:
                found.append(end)
            for number in numbers:
                if number < end[0] and self._grants[number].receiver == giver and self._grants[number].may_pass:
                    ends.append([number, *end])
        return sorted(found)
