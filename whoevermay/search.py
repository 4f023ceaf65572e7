"""The search backwards from a goal, and the way forwards along the markings that it kept."""

from whoevermay.charters import LETTERS
from whoevermay.errors import TooMany
from whoevermay.markings import Pile
from whoevermay.moves import moves_of
from whoevermay.slots import Coding


def _size(marking):
    """A pair of numbers that is less for each other marking that lies below this one."""
    return (len(marking), sum(marking))


class Search:
    """The markings from which a goal is reached, those with fewer steps first, up to one that the founders meet."""

    def __init__(self, charter, goal, trusted, limit):
        self._coding = Coding(charter, trusted)
        self._moves = moves_of(self._coding)
        self._limit = limit
        self._goal = self._coding.coded(goal)
        self._pile = Pile()
        self._markings = []
        # How each marking came: the number of the marking that its action leads to, the move and the places of actor
        # and target; None for the goal's marking.
        self._ways = []
        # The number of the marking that the founders meet.
        self._end = None
        self._run()

    def _run(self):
        """Search, in each round one step further back."""
        if self._coding.is_impossible(self._goal):
            return
        fresh = {}
        self._offer(fresh, self._coding.cleaned(self._goal), None)
        while fresh and self._end is None:
            first = len(self._markings)
            for marking in sorted(fresh, key=_size):
                if not self._pile.has_below(marking):
                    self._keep(marking, fresh[marking])
            fresh = self._ways_back(first)

    def _keep(self, marking, way):
        """Keep a marking, or raise TooMany."""
        if len(self._markings) >= self._limit:
            raise TooMany(self._limit)
        self._markings.append(marking)
        self._ways.append(way)
        self._pile.put(marking)

    def _offer(self, fresh, marking, way):
        """Add a marking to the fresh ones, or keep it as the end if the founders meet it."""
        if marking in fresh:
            return
        if self._coding.founders_for(marking) is None:
            fresh[marking] = way
        else:
            self._keep(marking, way)
            self._end = len(self._markings) - 1

    def _ways_back(self, first):
        """The ways back from the kept markings from this number on, up to one that the founders meet."""
        fresh = {}
        behind_last = len(self._markings)
        for number in range(first, behind_last):
            later = self._markings[number]
            for move in self._moves:
                ways = move.ways_back(later)
                for marking, actor, target in ways:
                    self._offer(fresh, marking, (number, move, actor, target))
                    if self._end is not None:
                        return fresh
        return fresh

    def is_reached(self):
        """Whether the goal is reached."""
        return self._end is not None

    def fewest(self):
        """The fewest steps to the goal, which is reached."""
        count = 0
        way = self._ways[self._end]
        while way is not None:
            count += 1
            way = self._ways[way[0]]
        return count

    def told_markings(self):
        """The markings that were kept, as the document writes them."""
        return [tuple([self._coding.told(slot) for slot in marking]) for marking in self._markings]

    def retraced(self):
        """The actions by which the founders and those who join come to the goal, which is reached."""
        cast = Cast(self._coding)
        number = self._end
        people = self._coding.founders_for(self._markings[number])
        while self._ways[number] is not None:
            behind, move, actor, target = self._ways[number]
            slots = move.undone(self._markings[behind], actor, target)
            people = cast.filled(slots, self._markings[number], people)
            cast.act(move.name, people[actor], None if target is None else people[target])
            number = behind
        cast.filled(self._goal, self._markings[number], people)
        return cast.actions


class Cast:
    """People for slots, and what they do one after another."""

    def __init__(self, coding):
        self.actions = []
        self._coding = coding
        initials = [name[0] for name in coding.charter.founder_names]
        # No founder has a name that begins with this letter.
        self._letter = [letter for letter in LETTERS if letter not in initials][0]

    def filled(self, slots, marking, people):
        """The people for the slots: those who stand for the marking, which is cleaned, and who joins for the others."""
        slots_left = list(marking)
        people_left = list(people)
        cast = []
        for slot in slots:
            rule = self._coding.joining(slot)
            if rule is None:
                at = slots_left.index(slot)
                slots_left.pop(at)
                cast.append(people_left.pop(at))
            else:
                cast.append(self._join(rule))
        return cast

    def _join(self, rule):
        """Let somebody join by the rule, under a name that nobody has."""
        name = f"{self._letter}{len(self.actions)}"
        self.act(rule, name, None)
        return name

    def act(self, rule, actor, target):
        """Do an action."""
        self.actions.append((rule, actor, target))
