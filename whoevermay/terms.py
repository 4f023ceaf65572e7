"""What rules and demands ask of people."""

TARGETED = ("give", "take", "pass")


def actor_terms(rule):
    """The rights that the actor of a rule, which is no join, must hold and must lack."""
    # The lacks of a give, take or pass are about the target.
    needs, lacks, right = rule[2], rule[-2], rule[-1]
    if rule[0] == "claim":
        return needs, (*lacks, right)
    if rule[0] == "drop":
        return (*needs, right), lacks
    if rule[0] == "pass":
        return (*needs, right), ()
    return needs, ()


def target_terms(rule):
    """The rights that the target of a give, take or pass must hold and must lack."""
    wants, lacks, right = rule[3], rule[4], rule[5]
    if rule[0] == "take":
        return (*wants, right), lacks
    return wants, (*lacks, right)


def fits(held, holds, lacks):
    """Whether who has the rights `held` holds all of `holds` and none of `lacks`."""
    return all(right in held for right in holds) and not any(right in held for right in lacks)


def can_choose(choices, taken=()):
    """Whether different things can be chosen, one of each list, the first ones being taken."""
    if len(taken) == len(choices):
        return True
    for one in choices[len(taken)]:
        if one not in taken and can_choose(choices, (*taken, one)):
            return True
    return False
