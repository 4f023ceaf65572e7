"""What rules and demands ask of people."""

TARGETED = ("give", "take", "pass")


def actor_terms(rule):
    """The rights that the actor of a rule, which is no join, must hold and must lack."""
    # The lacks of a give, take or pass are about the target.
    needs, lacks, right = rule[2], rule[-2], rule[-1]
    if rule[0] == "claim":
        return needs, (*lacks, right)
    if rule[0] == "drop":
        return (*needs, right), lacks
    if rule[0] == "pass":
        return (*needs, right), ()
    return needs, ()


def target_terms(rule):
    """The rights that the target of a give, take or pass must hold and must lack."""
    wants, lacks, right = rule[3], rule[4], rule[5]
    if rule[0] == "take":
        return (*wants, right), lacks
    return wants, (*lacks, right)


def fits(held, holds, lacks):
    """Whether who has the rights `held` holds all of `holds` and none of `lacks`."""
    return all(right in held for right in holds) and not any(right in held for right in lacks)


def choose(choices):
    """Different things, one of each list in the order of the lists, or None if there are no such things."""
    places = {}
    for place in range(len(choices)):
        if not _can_place(place, choices, places, {}):
            return None
    chosen = {place: one for one, place in places.items()}
    return [chosen[place] for place in range(len(choices))]


def _can_place(place, choices, places, tried):
    """Choose a thing of the list at this place, if need be by choosing others anew for the lists ahead of it."""
    for one in choices[place]:
        if one not in tried:
            tried[one] = True
            if one not in places or _can_place(places[one], choices, places, tried):
                places[one] = place
                return True
    return False
