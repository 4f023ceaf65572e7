"""Drawn charters and goals, and slow answers that follow the words of the document."""

import itertools

from whoevermay.charters import Charter
from whoevermay.errors import TooMany, UnknownName
from whoevermay.organisations import Organisation

RIGHTS = ["a", "b", "c", "d", "e", "f"]
PEOPLE = ["ann", "bob", "cid", "dan", "eve"]


def told(ask):
    """What is answered, or the error in words."""
    try:
        return ask()
    except TooMany as error:
        return f"too many for {error.limit}"
    except UnknownName as error:
        return f"unknown name {error.name}"


def part_of(rng, words, share):
    return [word for word in words if rng.random() < share]


def split_of(rng, words, share):
    """Two lists without a common word, in any order."""
    words = rng.sample(list(words), len(words))
    first = part_of(rng, words, share)
    return first, part_of(rng, [word for word in words if word not in first], share)


def draw_rule(rng, name, rights, sole, share):
    shared = [right for right in rights if right not in sole]
    kinds = ["join", "drop", "take"] + ["claim", "give"] * bool(shared) + ["pass"] * bool(sole)
    kind = rng.choice(kinds)
    if kind == "join":
        return ("join", name, part_of(rng, shared, share))
    right = rng.choice(sole if kind == "pass" else shared if kind in ("claim", "give") else rights)
    asked, lacks = split_of(rng, [one for one in rights if one != right], share)
    if kind in ("claim", "drop"):
        return (kind, name, asked, lacks, right)
    return (kind, name, part_of(rng, [one for one in rights if kind != "pass" or one != right], share), asked, lacks, right)


def draw_founders(rng, rights, sole, most, share=0.4):
    founders = []
    for person in rng.sample(PEOPLE, rng.randint(0, most)):
        gone = [right for _, held in founders for right in held if right in sole]
        founders.append((person, part_of(rng, [right for right in rights if right not in gone], share)))
    return founders


def draw_charter(rng, *, rights=(2, 4), rules=(1, 6), founders=3, share=None):
    share = rng.choice([0.1, 0.2, 0.35]) if share is None else share
    names = RIGHTS[:rng.randint(*rights)]
    sole = part_of(rng, names, 0.3)
    return Charter(rights=names, sole=sole, founders=draw_founders(rng, names, sole, founders),
                   rules=[draw_rule(rng, f"r{at}", names, sole, share) for at in range(rng.randint(*rules))])


def draw_goal(rng, charter, many=None):
    goal = []
    free = list(charter.founder_names)
    for _ in range(many or rng.randint(1, 3)):
        person = rng.choice(free) if free and rng.random() < 0.3 else None
        free = [name for name in free if name != person]
        goal.append((person, *split_of(rng, charter.rights, 0.35)))
    return goal


def draw_trusted(rng, charter):
    return part_of(rng, charter.founder_names, 0.3)


# A search forwards: an organisation is a sorted tuple of people (name or None, frozenset of rights).

def organisation(people):
    return tuple(sorted(people, key=lambda one: (one[0] or "", sorted(one[1]))))


def starts(charter, joiners):
    """The founders with just so many who joined, or alone if nobody can join."""
    founders = [(name, frozenset(held)) for name, held in charter.founders]
    ways = [frozenset(rule[2]) for rule in charter.rules if rule[0] == "join"]
    for some in itertools.combinations_with_replacement(ways, joiners if ways else 0):
        yield organisation(founders + [(None, held) for held in some])


def ask(held, needs, lacks):
    return set(needs) <= held and not set(lacks) & held


def changed_by(kind, right, needs, wants, lacks, actor, target):
    """What actor and target hold behind the action, or None if it cannot be done."""
    if kind == "claim" and ask(actor, needs, [*lacks, right]):
        return actor | {right}, target
    if kind == "drop" and ask(actor, [*needs, right], lacks):
        return actor - {right}, target
    if kind == "give" and ask(actor, needs, []) and ask(target, wants, [*lacks, right]):
        return actor, target | {right}
    if kind == "take" and ask(actor, needs, []) and ask(target, [*wants, right], lacks):
        return actor, target - {right}
    if kind == "pass" and ask(actor, [*needs, right], []) and ask(target, wants, [*lacks, right]):
        return actor - {right}, target | {right}
    return None


def next_ones(charter, trusted, people):
    """The organisations behind one action that is no join."""
    for rule in charter.rules:
        if rule[0] == "join":
            continue
        needs, wants, lacks = (rule[2], (), rule[3]) if rule[0] in ("claim", "drop") else rule[2:5]
        for actor in range(len(people)):
            if people[actor][0] in trusted:
                continue
            targets = [at for at in range(len(people)) if at != actor]
            for target in targets if rule[0] in ("give", "take", "pass") else [None]:
                held = changed_by(rule[0], rule[-1], needs, wants, lacks, people[actor][1],
                                  None if target is None else people[target][1])
                if held is not None:
                    after = list(people)
                    after[actor] = (people[actor][0], held[0])
                    if target is not None:
                        after[target] = (people[target][0], held[1])
                    yield organisation(after)


def is_met(people, goal):
    return any(all(demand[0] in (None, one[0]) and ask(one[1], demand[1], demand[2]) for one, demand in zip(some, goal))
               for some in itertools.permutations(people, len(goal)))


def forwards(charter, goal, trusted=(), joiners=2, most=30000):
    """The fewest steps with so many who join, None if the goal is not reached so, and -1 if that takes too long."""
    level = set(starts(charter, joiners))
    seen = set(level)
    steps = 0
    while level:
        if any(is_met(people, goal) for people in level):
            return steps
        level = {after for people in level for after in next_ones(charter, trusted, people)} - seen
        seen |= level
        steps += 1
        if len(seen) > most:
            return -1
    return None


# Points 31 to 37 word by word: a slot is a tuple (label, frozenset of holds, frozenset of lacks), a marking a list of slots.

class Words:
    def __init__(self, charter, trusted):
        self.charter = charter
        self.trusted = list(trusted)
        self.sole = set(charter.sole)
        self.held = {right for _, held in charter.founders for right in held}

    def stands(self, person, held, slot):
        label, holds, lacks = slot
        if label == "" and person in self.trusted or label not in (None, "", person):
            return False
        return ask(set(held), holds, lacks)

    def different(self, lows, highs, fits):
        """Whether different ones of highs can be chosen for the lows."""
        if not lows:
            return True
        return any(fits(lows[0], high) and self.different(lows[1:], highs[:at] + highs[at + 1:], fits)
                   for at, high in enumerate(highs))

    def founders_meet(self, marking):
        return self.different(marking, list(self.charter.founders), lambda slot, one: self.stands(one[0], one[1], slot))

    def impossible(self, marking):
        if any(slot[1] & slot[2] for slot in marking):
            return True
        return any(sum(right in slot[1] for slot in marking) > (1 if right in self.held else 0) for right in self.sole)

    def cleaned(self, marking):
        return [slot for slot in marking if slot[0] not in (None, "")
                or not any(rule[0] == "join" and self.stands(None, rule[2], (None, *slot[1:])) for rule in self.charter.rules)]

    def label_below(self, low, high):
        return low is None or low == high or low == "" and high is not None and high not in self.trusted

    def below(self, low, high):
        return self.different(low, high, lambda one, other: self.label_below(one[0], other[0])
                              and one[1] <= other[1] and one[2] <= other[2])

    def actor(self, slot, holds=(), lacks=(), without_holds=(), without_lacks=()):
        """The actor's slot in the place of a slot, in a list, or the empty list."""
        if slot[0] in self.trusted:
            return []
        label = "" if slot[0] is None and self.trusted else slot[0]
        return [(label, (slot[1] - set(without_holds)) | set(holds), (slot[2] - set(without_lacks)) | set(lacks))]

    def ways_back(self, marking, rule):
        """The ways back by a rule ahead of cleaning, also the impossible ones."""
        kind, right = rule[0], rule[-1]
        if kind in ("claim", "drop"):
            needs, lacks = rule[2], rule[3]
            for at, slot in enumerate(marking):
                rest = marking[:at] + marking[at + 1:]
                if kind == "claim" and right not in slot[2]:
                    for one in self.actor(slot, needs, [*lacks, right], [right]):
                        yield rest + [one]
                if kind == "drop" and right not in slot[1]:
                    for one in self.actor(slot, [*needs, right], lacks, [], [right]):
                        yield rest + [one]
        elif kind != "join":
            yield from self.ways_with_target(marking, kind, rule[2], rule[3], rule[4], right)

    def ways_with_target(self, marking, kind, needs, wants, lacks, right):
        new = (None, frozenset(), frozenset())
        for at, (label, holds, lacked) in enumerate(marking):
            if right in (holds if kind == "take" else lacked):
                continue
            target = (label, (holds - {right}) | set(wants), lacked | set(lacks) | {right})
            if kind == "take":
                target = (label, holds | set(wants) | {right}, (lacked - {right}) | set(lacks))
            others = marking[:at] + marking[at + 1:]
            for place, other in [*enumerate(others), (len(others), new)]:
                rest = others[:place] + others[place + 1:]
                if kind != "pass":
                    actors = self.actor(other, needs)
                else:
                    actors = [] if right in other[1] else self.actor(other, [*needs, right], [], [], [right])
                for one in actors:
                    yield rest + [target, one]
        if kind == "pass":
            for at, slot in enumerate(marking):
                if right not in slot[1]:
                    for one in self.actor(slot, [*needs, right], [], [], [right]):
                        target = (None, frozenset(wants), frozenset([*lacks, right]))
                        yield marking[:at] + marking[at + 1:] + [one, target]

    def shows(self, goal, markings):
        """Point 37."""
        read = [[(label, frozenset(holds), frozenset(lacks)) for label, holds, lacks in marking]
                for marking in [goal, *markings]]
        cleaned = [self.cleaned(marking) for marking in read]
        goals, rest = cleaned[:1], cleaned[1:]
        rest = [marking for marking in rest if not self.impossible(marking)]
        if any(self.founders_meet(marking) for marking in rest):
            return False
        if not self.impossible(goals[0]) and not any(self.below(marking, goals[0]) for marking in rest):
            return False
        for marking in rest:
            for rule in self.charter.rules:
                for way in self.ways_back(marking, rule):
                    clean = self.cleaned(way)
                    if not self.impossible(way) and not any(self.below(low, clean) for low in rest):
                        return False
        return True


def walk(rng, charter, trusted, many):
    """Actions that can be done one after another, and the organisation behind them."""
    office = Organisation(charter, trusted=trusted)
    done = []
    for number in range(many):
        people = office.people
        actions = [(rule[1], actor, target) for rule in charter.rules if rule[0] != "join"
                   for actor in people for target in [None, *people]]
        actions = [action for action in actions if office.can_do(action)]
        joins = [(rule[1], f"p{number}", None) for rule in charter.rules if rule[0] == "join"]
        if not actions and not joins:
            break
        done.append(rng.choice(joins if joins and (not actions or rng.random() < 0.3) else actions))
        office.do(done[-1])
    return done, office


def goal_met_by(rng, office):
    """A goal that the organisation meets, or None if nobody is there."""
    goal = []
    people = office.people
    for person in rng.sample(people, min(len(people), rng.randint(1, 3))):
        held = office.holds(person)
        lacked = [right for right in office.charter.rights if right not in held]
        name = person if person in office.charter.founder_names and rng.random() < 0.5 else None
        goal.append((name, part_of(rng, held, 0.8), part_of(rng, lacked, 0.5)))
    return goal or None
