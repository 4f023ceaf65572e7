"""Markings, tuples of slots in numbers, and which of them lie below others."""

from whoevermay.terms import choose


def lies_below(low, high):
    """Whether different slots of the high marking can be chosen that lie above the slots of the low one."""
    if len(low) > len(high):
        return False
    rest = list(high)
    choices = []
    others = []
    for slot in low:
        # A slot may as well be given its like: what it leaves lies above all that its like lies above.
        if slot in rest:
            rest.remove(slot)
        else:
            others.append(slot)
    for slot in others:
        above = [at for at, one in enumerate(rest) if slot & one == slot]
        if not above:
            return False
        choices.append(above)
    return choose(choices) is not None


class Pile:
    """Markings that are asked whether one of them lies below another marking."""

    def __init__(self):
        # Each marking stands behind a number that has a bit for each slot in it. `_slots` tells the slots of the bits,
        # `_bits` the bits of the slots, and `_below` what is known of the bits of those that lie below a slot.
        self._rows = []
        self._slots = []
        self._bits = {}
        self._below = {}

    def put(self, marking):
        """Put a marking on the pile."""
        bits = 0
        for slot in marking:
            if slot not in self._bits:
                self._bits[slot] = 1 << len(self._slots)
                self._slots.append(slot)
            bits = bits | self._bits[slot]
        self._rows.append((bits, marking))

    def has_below(self, marking):
        """Whether a marking of the pile lies below this one."""
        every = 0
        for slot in marking:
            every = every | self._bits_below(slot)
        found = None
        for at, (bits, low) in enumerate(self._rows):
            if bits & every == bits and lies_below(low, marking):
                found = at
                break
        if found is None:
            return False
        # What lies below one marking often lies below the next ones, too, and is then found at once.
        row = self._rows.pop(found)
        self._rows.insert(0, row)
        return True

    def _bits_below(self, slot):
        """The bits of all slots on the pile that lie below this one."""
        known, bits = self._below.get(slot, (0, 0))
        for at in range(known, len(self._slots)):
            low = self._slots[at]
            if low & slot == low:
                bits = bits | (1 << at)
        self._below[slot] = (len(self._slots), bits)
        return bits
