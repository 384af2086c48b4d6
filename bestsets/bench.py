"""The bench: a largest common set of two matroids, kept while they change."""

from bestsets.changes import bounds_of, places_of, with_bound, with_data
from bestsets.errors import AlreadyIn, AlreadyOut, TooManyChanges, UnknownElement
from bestsets.exchanges import moved_by
from bestsets.lines import check_valid, size
from bestsets.masks import members_of
from bestsets.ranks import Ranks, ranks_of_two
from bestsets.rules import Part

MOST_CHANGES = 100


class State:
    """What a bench tells after a change."""

    def __init__(self, matroids, present, best, proof, losses, steps, bound):
        self.matroids = matroids
        # The set of the elements that are in.
        self.present = present
        self.best = best
        self.proof = proof
        self.losses = losses
        self.steps = steps
        self.bound = bound


class Bench:
    """Two matroids and the elements that are in, with a largest common set of them."""

    def __init__(self, first, second):
        """Raises InvalidMatroid for the first and then for the second matroid, and DifferentSizes."""
        check_valid(first)
        check_valid(second)
        self.both = list(ranks_of_two(first, second))
        count = size(first)
        self.states = [self.state_after([], (first, second), (1 << count) - 1, count)]
        self.at = 0

    def put(self, element):
        """The element comes in."""
        self.check_element(element)
        if self.is_in(element):
            raise AlreadyIn(element)
        self.turn(element)

    def take(self, element):
        """The element goes out."""
        self.check_element(element)
        if not self.is_in(element):
            raise AlreadyOut(element)
        self.turn(element)

    def set_data(self, which, line, element, data):
        """An element of a line of the first or of the second matroid gets other data."""
        matroid = self.now().matroids[which - 1]
        changed = with_data(matroid, line, element, data)
        self.set_matroid(which, changed, 2 * places_of(matroid, line))

    def set_bound(self, which, line, number, bound):
        """A bound of a line of the first or of the second matroid becomes another one."""
        matroid = self.now().matroids[which - 1]
        changed = with_bound(matroid, line, number, bound)
        difference = abs(bounds_of(matroid[line])[number] - bound)
        self.set_matroid(which, changed, places_of(matroid, line) * difference)

    def undo(self):
        """Takes back the last change; returns whether there was one."""
        if self.changes() == 0:
            return False
        self.at -= 1
        return True

    def redo(self):
        """Makes the change again that was taken back last; returns whether there was one."""
        if self.undone() == 0:
            return False
        self.at += 1
        return True

    def first(self):
        """The first matroid."""
        return self.now().matroids[0]

    def second(self):
        """The second matroid."""
        return self.now().matroids[1]

    def members(self):
        """The elements that are in."""
        return members_of(self.now().present)

    def kept(self):
        """The kept set, a largest common set of the elements that are in."""
        return list(self.now().best)

    def shown(self):
        """The set that shows that no common set of the elements that are in is larger."""
        return list(self.now().proof)

    def lost(self):
        """How many elements were lost by the last change."""
        return self.now().losses

    def rows(self):
        """How many rows of exchanges the last change made."""
        return self.now().steps

    def most(self):
        """The bound of the last change."""
        return self.now().bound

    def changes(self):
        """How many changes can be undone."""
        return self.at

    def undone(self):
        """How many changes can be made again."""
        return len(self.states) - 1 - self.at

    def now(self):
        """The state after the last change that is in force."""
        return self.states[self.at]

    def is_in(self, element):
        """Whether an element is in."""
        return self.now().present >> element & 1 == 1

    def check_element(self, element):
        """Raises UnknownElement if there is no such element."""
        if not 0 <= element < size(self.first()):
            raise UnknownElement(element)

    def turn(self, element):
        """An element that is in goes out, one that is out comes in."""
        now = self.now()
        self.change(now.matroids, now.present ^ 1 << element, 1)

    def set_matroid(self, which, matroid, bound):
        """One of the two matroids becomes another one."""
        matroids = (matroid, self.second()) if which == 1 else (self.first(), matroid)
        self.change(matroids, self.now().present, bound)

    def change(self, matroids, present, bound):
        """Makes a change; raises TooManyChanges."""
        if self.changes() >= MOST_CHANGES:
            raise TooManyChanges()
        state = self.state_after(self.now().best, matroids, present, bound)
        self.states = self.states[:self.at + 1] + [state]
        self.at += 1

    def state_after(self, members, matroids, present, bound):
        """The state in which a set that was kept is moved to a largest common set."""
        for place, matroid in enumerate(matroids):
            # Ranks that were found stay right until the matroid changes.
            if self.both[place].matroid != matroid:
                self.both[place] = Ranks(matroid)
        one, other = self.both
        kept, rows, best, proof = moved_by(Part(one, present, 0), Part(other, present, 0), members)
        return State(matroids, present, best, proof, len(members) - len(kept), len(rows), bound)
