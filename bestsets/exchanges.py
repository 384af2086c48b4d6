"""Layers and rows of exchanges, by which a common set of two matroids becomes larger.

A matroid is given as Ranks, or as one of the classes of bestsets/rules.py.
"""

from bestsets.masks import mask_of, members_of


class Exchanges:
    """The exchanges for a common set, which is given by its mask."""

    def __init__(self, one, other, mask):
        self.one = one
        self.other = other
        self.mask = mask

    def holds(self, element):
        """Whether an element is in the common set."""
        return self.mask >> element & 1 == 1

    def growing_layers(self):
        """The layers, one after another, each in ascending order."""
        rest = list(range(self.one.size()))
        layer = [element for element in rest if not self.holds(element) and self.one.takes(self.mask, element)]
        while len(layer) > 0:
            yield layer
            rest = [element for element in rest if element not in layer]
            layer = self.layer_after(layer, rest)

    def layer_after(self, layer, rest):
        """The remaining elements that can follow some element of a layer."""
        # All elements of a layer are in the common set, or all are outside it.
        outside = self.holds(layer[0])
        return [element for element in rest if self.holds(element) != outside and self.follows_one(layer, element)]

    def follows_one(self, layer, element):
        """Whether an element can follow some element of a layer."""
        return any(self.can_follow(before, element) for before in layer)

    def can_follow(self, before, element):
        """Whether an element can follow another one on the other side."""
        if self.holds(before):
            return self.one.takes(self.mask ^ 1 << before, element)
        return self.other.takes(self.mask ^ 1 << element, before)

    def search(self):
        """The row of exchanges with the layers before its last element; None with all layers if there is no row."""
        passed = []
        for layer in self.growing_layers():
            ends = [element for element in layer if self.is_end(element)]
            if len(ends) > 0:
                return (self.row_to(ends[0], passed), passed)
            passed.append(layer)
        return (None, passed)

    def is_end(self, element):
        """Whether a row can end with an element."""
        return not self.holds(element) and self.other.takes(self.mask, element)

    def row_to(self, last, passed):
        """The row that ends with an element, given the layers before it."""
        row = [last]
        for layer in reversed(passed):
            row.append(min([element for element in layer if self.can_follow(element, row[-1])]))
        return row[::-1]


def moved_by(one, other, members):
    """What stays of a set, the rows, the largest common set to which it is moved, and the shown set."""
    kept = kept_of(one, other, members)
    mask = mask_of(kept)
    rows = []
    row, passed = Exchanges(one, other, mask).search()
    while row is not None:
        rows.append(row)
        mask = mask ^ mask_of(row)
        row, passed = Exchanges(one, other, mask).search()
    return (kept, rows, members_of(mask), reached_in(passed))


def kept_of(one, other, members):
    """The elements of a set, taken in ascending order, with which those taken stay independent in both matroids."""
    mask = 0
    for element in sorted(members):
        if one.takes(mask, element) and other.takes(mask, element):
            mask = mask | 1 << element
    return members_of(mask)


def reached_in(layers):
    """The elements that are in some layer, in ascending order."""
    return sorted([element for layer in layers for element in layer])
