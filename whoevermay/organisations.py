"""Organisations: people with rights, the actions that they do, and the goals that they meet."""

from whoevermay.charters import is_name
from whoevermay.errors import InvalidAction, InvalidGoal, UnknownName
from whoevermay.terms import TARGETED, actor_terms, choose, fits, target_terms


def check_trusted(charter, trusted):
    """Raise UnknownName with the first trusted name that no founder has."""
    for name in trusted:
        if name not in charter.founder_names:
            raise UnknownName(name)


def check_goal(charter, goal):
    """Raise UnknownName or InvalidGoal if the demands are no goal of the charter."""
    for person, holds, lacks in goal:
        if person is not None and person not in charter.founder_names:
            raise UnknownName(person)
        for right in [*holds, *lacks]:
            if right not in charter.rights:
                raise UnknownName(right)
    if not 1 <= len(goal) <= 3:
        raise InvalidGoal("no demand, or more than three")
    named = [demand[0] for demand in goal if demand[0] is not None]
    if len(set(named)) < len(named):
        raise InvalidGoal("two demands of the same founder")
    for _, holds, lacks in goal:
        rights = [*holds, *lacks]
        if len(set(rights)) < len(rights):
            raise InvalidGoal("a right stands twice in a demand")


def run(charter, actions, *, trusted=()):
    """The organisation behind the actions, from the start."""
    organisation = Organisation(charter, trusted=trusted)
    for action in actions:
        organisation.do(action)
    return organisation


class Organisation:
    """People and the rights that they hold."""

    def __init__(self, charter, *, trusted=()):
        check_trusted(charter, trusted)
        self.charter = charter
        self.trusted = tuple(trusted)
        self.count = 0
        # The order of its keys is the order of the people.
        self._held = dict(charter.founders)

    @property
    def people(self):
        """The names of all people: the founders, then those who joined."""
        return list(self._held)

    def holds(self, person):
        """The rights that this person holds."""
        if person not in self._held:
            raise UnknownName(person)
        return self._held[person]

    def holders(self, right):
        """The names of those who hold the right."""
        if right not in self.charter.rights:
            raise UnknownName(right)
        return [person for person, held in self._held.items() if right in held]

    def copy(self):
        """An organisation that is the same now and goes on by itself."""
        twin = Organisation(self.charter, trusted=self.trusted)
        twin.count = self.count
        twin._held = dict(self._held)
        return twin

    def can_do(self, action):
        """Whether the action can be done."""
        name, actor, target = action
        if name not in self.charter.rule_names:
            return False
        rule = self.charter.rule(name)
        if (target is not None) != (rule[0] in TARGETED):
            return False
        if rule[0] == "join":
            return is_name(actor) and actor not in self._held
        if actor not in self._held or actor in self.trusted:
            return False
        holds, lacks = actor_terms(rule)
        if not fits(self._held[actor], holds, lacks):
            return False
        return target is None or self._can_be_target(rule, actor, target)

    def _can_be_target(self, rule, actor, target):
        """Whether the actor can do to the target what the rule says of targets."""
        if target not in self._held or target == actor:
            return False
        holds, lacks = target_terms(rule)
        return fits(self._held[target], holds, lacks)

    def do(self, action):
        """Do the action, or raise InvalidAction and change nothing."""
        if not self.can_do(action):
            raise InvalidAction(self.count)
        name, actor, target = action
        rule = self.charter.rule(name)
        if rule[0] == "join":
            self._held[actor] = rule[2]
        if rule[0] in ("drop", "pass"):
            self._lose(actor, rule[-1])
        if rule[0] == "take":
            self._lose(target, rule[-1])
        if rule[0] == "claim":
            self._gain(actor, rule[-1])
        if rule[0] in ("give", "pass"):
            self._gain(target, rule[-1])
        self.count += 1

    def _gain(self, person, right):
        """Let the person hold the right."""
        held = self._held[person]
        self._held[person] = self.charter.ordered([*held, right])

    def _lose(self, person, right):
        """Let the person not hold the right any more."""
        self._held[person] = tuple([one for one in self._held[person] if one != right])

    def meets(self, goal):
        """Whether different people meet the demands of the goal."""
        check_goal(self.charter, goal)
        return choose([self._who_meets(demand) for demand in goal]) is not None

    def _who_meets(self, demand):
        """The names of those who meet the demand."""
        person, holds, lacks = demand
        people = list(self._held) if person is None else [person]
        return [one for one in people if fits(self._held[one], holds, lacks)]
