"""The rules read backwards: what was true of actor and target ahead of an action."""

from whoevermay.terms import TARGETED, actor_terms, target_terms


class Part:
    """What a rule says of its actor, or of its target, in slots."""

    def __init__(self, coding, *, brought, barred, asked):
        self._coding = coding
        # What the action makes true of this person, what cannot be true of them behind it, and what is true ahead.
        self.brought = brought
        self._barred = barred
        self._asked = asked
        self._known = {}

    def before(self, slot):
        """The slot ahead of the action of who stands for this slot behind it, or None if there is nobody."""
        if slot not in self._known:
            self._known[slot] = self._worked_out(slot)
        return self._known[slot]

    def _worked_out(self, slot):
        """As `before`."""
        if slot & self._barred != 0:
            return None
        earlier = (slot & ~self.brought) | self._asked
        return None if self._coding.is_void(earlier) else earlier


class Move:
    """A rule that is no join, with its actor and, if it has one, its target."""

    def __init__(self, coding, rule):
        self.name = rule[1]
        self._coding = coding
        holding = coding.asked(rule[-1:], ())
        lacking = coding.asked((), rule[-1:])
        self._actor = _actor_part(coding, rule, holding, lacking)
        self._target = _target_part(coding, rule, holding, lacking) if rule[0] in TARGETED else None

    def ways_back(self, marking):
        """The ways back from a marking by the rule, with the places of actor and target, as tuples of three.

        Ways back above the marking itself are left out: nothing comes of them that does not come of the marking.
        """
        ways = []
        for actor, target in self._places(marking):
            slots = self.undone(marking, actor, target)
            if slots is not None:
                ways.append((self._coding.cleaned(slots), actor, target))
        return ways

    def _places(self, marking):
        """The places of actor and target in the marking at which the action brings about what a slot asks for.

        The place behind the last slot is that of somebody new.
        """
        new = len(marking)
        acting = [at for at in range(new) if marking[at] & self._actor.brought != 0]
        if self._target is None:
            return [(actor, None) for actor in acting]
        places = []
        for target in range(new):
            actors = acting
            if marking[target] & self._target.brought != 0:
                actors = list(range(new + 1))
            places.extend([(actor, target) for actor in actors if actor != target])
        return places + [(actor, new) for actor in acting]

    def undone(self, marking, actor, target):
        """The slots ahead of the action of people at these places, or None if these are impossible."""
        slots = list(marking)
        if len(marking) in (actor, target):
            slots.append(0)
        slots[actor] = self._actor.before(slots[actor])
        if target is not None:
            slots[target] = self._target.before(slots[target])
        if None in slots or self._coding.is_impossible(slots):
            return None
        return slots


def _actor_part(coding, rule, holding, lacking):
    """The actor of a rule."""
    holds, lacks = actor_terms(rule)
    asked = coding.asked(holds, lacks) | coding.acting
    if rule[0] == "claim":
        return Part(coding, brought=holding, barred=lacking | coding.barred, asked=asked)
    if rule[0] in ("drop", "pass"):
        return Part(coding, brought=lacking, barred=holding | coding.barred, asked=asked)
    # Nothing changes for who gives or takes away.
    return Part(coding, brought=0, barred=coding.barred, asked=asked)


def _target_part(coding, rule, holding, lacking):
    """The target of a rule."""
    holds, lacks = target_terms(rule)
    asked = coding.asked(holds, lacks)
    if rule[0] == "take":
        return Part(coding, brought=lacking, barred=holding, asked=asked)
    return Part(coding, brought=holding, barred=lacking, asked=asked)


def moves_of(coding):
    """The moves of the rules of a charter that are no joins."""
    return [Move(coding, rule) for rule in coding.charter.rules if rule[0] != "join"]
