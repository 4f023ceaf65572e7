"""Slots in numbers.

A slot is an integer with a bit for each right that it holds, a bit for each right that it lacks, a bit for who may act
(which the empty label asks for), and a bit for each founder. A person, too, is an integer with a bit for all that is
true of them. So one slot lies below another one, and a person stands for a slot, if all bits of the one are bits of the
other one.
"""

from whoevermay.terms import choose


class Coding:
    """How a charter and some trusted founders write slots in numbers, and what they make of slots."""

    def __init__(self, charter, trusted):
        self.charter = charter
        self._width = len(charter.rights)
        free = 1 << (2 * self._width)
        self._labels = {None: 0, "": free}
        for at, name in enumerate(charter.founder_names):
            bit = free << (at + 1)
            self._labels[name] = bit if name in trusted else free | bit
        # What the label of an actor's slot must ask for, and the bits that it must not have.
        self.acting = free if len(trusted) > 0 else 0
        self.barred = sum([self._labels[name] for name in charter.founder_names if name in trusted])
        self._founders = [(name, self._person(name, held)) for name, held in charter.founders]
        self._joiners = [(rule[1], self._person("", rule[2])) for rule in charter.rules if rule[0] == "join"]
        held_ones = [right for _, held in charter.founders for right in held]
        self._sole = self.asked(charter.sole, ())
        self._gone = self.asked([right for right in charter.sole if right not in held_ones], ())
        self._joins = {}
        self._standing = {}

    def asked(self, holds, lacks):
        """The bits of the rights to hold and the rights to lack."""
        bits = 0
        for at, right in enumerate(self.charter.rights):
            if right in holds:
                bits = bits | (1 << at)
            if right in lacks:
                bits = bits | (1 << (self._width + at))
        return bits

    def _person(self, label, held):
        """The person with these rights; the label says who it is."""
        lacked = [right for right in self.charter.rights if right not in held]
        return self._labels[label] | self.asked(held, lacked)

    def coded(self, rows):
        """The slots, or the demands of a goal, in numbers."""
        return [self._labels[label] | self.asked(holds, lacks) for label, holds, lacks in rows]

    def told(self, slot):
        """The slot as a tuple of its label and its rights."""
        rights = self.charter.rights
        holds = [right for right in rights if slot & self.asked((right,), ()) != 0]
        lacks = [right for right in rights if slot & self.asked((), (right,)) != 0]
        rest = slot - self.asked(holds, lacks)
        labels = [label for label, bits in self._labels.items() if bits == rest]
        return (labels[0], tuple(holds), tuple(lacks))

    def is_void(self, slot):
        """Whether nobody can stand for the slot: it asks for a right twice, or for a sole right that is nowhere."""
        every = (1 << self._width) - 1
        return slot & (slot >> self._width) & every != 0 or slot & self._gone != 0

    def is_impossible(self, slots):
        """Whether no organisation that is reached meets the slots."""
        sole = 0
        for slot in slots:
            if self.is_void(slot) or slot & sole != 0:
                return True
            sole = sole | (slot & self._sole)
        return False

    def joining(self, slot):
        """The name of a rule by which somebody joins who then stands for the slot, or None."""
        if slot not in self._joins:
            names = [name for name, person in self._joiners if slot & person == slot]
            self._joins[slot] = names[0] if names else None
        return self._joins[slot]

    def cleaned(self, slots):
        """The marking without its slots of joiners, sorted so that the same slots are the same marking."""
        return tuple(sorted([slot for slot in slots if self.joining(slot) is None]))

    def founders_for(self, marking):
        """The names of different founders, one for each slot, who stand for them at the start, or None."""
        choices = [self._founders_at(slot) for slot in marking]
        return None if [] in choices else choose(choices)

    def _founders_at(self, slot):
        """The names of the founders who stand for the slot at the start."""
        if slot not in self._standing:
            self._standing[slot] = [name for name, person in self._founders if slot & person == slot]
        return self._standing[slot]
