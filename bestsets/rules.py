"""Matroids that are made of others and not written as lines.

Like Ranks, each one has a size and tells by `takes` whether a set, given by
its mask, stays independent with an element outside it. It is asked only for
sets that are independent, so what the element changes is all it looks at.
"""

from bestsets.masks import mask_of, members_of
from bestsets.ranks import least_table


class Part:
    """A matroid in which only some elements may be taken, and others count as taken already."""

    def __init__(self, rule, allowed, taken):
        self.rule = rule
        self.allowed = allowed
        self.taken = taken

    def size(self):
        """The number of elements, those that may not be taken included."""
        return self.rule.size()

    def takes(self, mask, element):
        """Whether an independent set stays independent with an element."""
        return self.allowed >> element & 1 == 1 and self.rule.takes(mask | self.taken, element)


class Copies:
    """The sum of two matroids of the same size."""

    def __init__(self, one, other):
        self.one = one
        self.other = other

    def size(self):
        """The number of elements of both matroids."""
        return 2 * self.one.size()

    def takes(self, mask, element):
        """Whether an independent set stays independent with an element."""
        place = self.one.size()
        high = mask >> place
        if element < place:
            return self.one.takes(mask ^ (high << place), element)
        return self.other.takes(high, element - place)


class Groups:
    """A matroid in which at most one element of each group is taken; each element is given its group."""

    def __init__(self, groups):
        masks = group_masks(groups)
        self.masks = [masks[group] for group in groups]

    def size(self):
        """The number of elements."""
        return len(self.masks)

    def takes(self, mask, element):
        """Whether an independent set stays independent with an element."""
        return mask & self.masks[element] == 0


class Images:
    """A matroid in which a set has the rank of the set of its images, elements of another matroid."""

    def __init__(self, ranks, images):
        self.ranks = ranks
        self.images = images
        # Each set is asked for with many elements, so its image is kept.
        self.known = {}

    def size(self):
        """The number of elements."""
        return len(self.images)

    def takes(self, mask, element):
        """Whether an independent set stays independent with an element."""
        return self.ranks.takes(self.image_of(mask), self.images[element])

    def image_of(self, mask):
        """The set of the images of an independent set, which are different ones."""
        if mask not in self.known:
            self.known[mask] = mask_of([self.images[element] for element in members_of(mask)])
        return self.known[mask]


class Levels:
    """The levels of a matroid that is truncated, for a list of weights."""

    def __init__(self, ranks, limit, weights):
        self.ranks = ranks
        self.limit = limit
        groups = group_masks(weights)
        heavier = {weight: sum([groups[more] for more in groups if more > weight]) for weight in groups}
        # For each element all elements of its weight, and all of a greater weight.
        self.same = [groups[weight] for weight in weights]
        self.heavier = [heavier[weight] for weight in weights]

    def size(self):
        """The number of elements."""
        return len(self.same)

    def takes(self, mask, element):
        """Whether an independent set stays independent with an element: only the level of its weight changes."""
        level = self.heavier[element] | mask & self.same[element]
        return self.rank(level | 1 << element) > self.rank(level)

    def rank(self, mask):
        """The rank of a set in the truncated matroid."""
        return min(self.ranks.rank(mask), self.limit)


class Fold:
    """A k-fold matroid, made of the ranks of all sets of elements in the matroid by their masks."""

    def __init__(self, ranks, count):
        self.ranks = fold_ranks(ranks, count)

    def size(self):
        """The number of elements."""
        return len(self.ranks).bit_length() - 1

    def takes(self, mask, element):
        """Whether an independent set stays independent with an element."""
        return self.ranks[mask | 1 << element] > self.ranks[mask]


def group_masks(groups):
    """The set of the elements of each group; each element is given its group."""
    masks = {}
    for element, group in enumerate(groups):
        masks[group] = masks.get(group, 0) | 1 << element
    return masks


def fold_ranks(ranks, count):
    """The ranks in the k-fold matroid, made of the ranks in the matroid in the order of their masks.

    The rank in a union of k times the same matroid is the least value, over
    all subsets, of k times their rank plus the number of elements left out.
    """
    return least_table([count * rank for rank in ranks])
