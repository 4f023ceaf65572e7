"""Histories: the organisations of a run, moment by moment."""

from whoevermay.errors import UnknownName
from whoevermay.organisations import Organisation


class History:
    """What was at each moment of a run: at the start, and behind each action."""

    def __init__(self, charter, actions, *, trusted=()):
        organisation = Organisation(charter, trusted=trusted)
        self.charter = charter
        self.actions = [tuple(action) for action in actions]
        # Others may change the list; what was done stays.
        self._done = tuple(self.actions)
        self._moments = [organisation.copy()]
        for action in self._done:
            organisation.do(action)
            self._moments.append(organisation.copy())

    def length(self):
        """The number of moments."""
        return len(self._moments)

    def at(self, moment):
        """The organisation of this moment, which goes on by itself."""
        return self._moments[moment].copy()

    def first_moment(self, goal):
        """The first moment at which the goal is met, or None."""
        for moment, organisation in enumerate(self._moments):
            if organisation.meets(goal):
                return moment
        return None

    def spans(self, person, right):
        """The spans of moments at which the person holds the right."""
        if right not in self.charter.rights:
            raise UnknownName(right)
        # Nobody ever leaves.
        if person not in self._moments[-1].people:
            raise UnknownName(person)
        spans = []
        start = None
        for moment, organisation in enumerate(self._moments):
            held = person in organisation.holders(right)
            if held and start is None:
                start = moment
            if not held and start is not None:
                spans.append((start, moment))
                start = None
        if start is not None:
            spans.append((start, len(self._moments)))
        return spans

    def joined(self):
        """Those who joined, each with the first moment at which they were there."""
        rows = []
        for number, (name, actor, _) in enumerate(self._done):
            if self.charter.rule(name)[0] == "join":
                rows.append((actor, number + 1))
        return rows

    def givers(self, person, right):
        """The names of those from whom the person got the right."""
        names = []
        for name, actor, target in self._done:
            rule = self.charter.rule(name)
            if rule[0] in ("give", "pass") and rule[-1] == right and target == person:
                names.append(actor)
        return names
