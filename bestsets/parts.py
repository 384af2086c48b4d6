"""Sets divided by two matroids, packings of bases, and coverings by independent sets."""

from bestsets.exchanges import moved_by
from bestsets.masks import mask_of
from bestsets.ranks import Ranks, ranks_of_two
from bestsets.rules import Copies, Fold, Groups, Part, fold_ranks


def divided(first, second, members):
    """Two sets, independent in one matroid each, into which a set is divided, and the dense set.

    Raises DifferentSizes.
    """
    one, other = ranks_of_two(first, second)
    return divided_by(one, other, members)


def divided_by(one, other, members):
    """The two sets and the dense set, found with two copies of each element."""
    size = one.size()
    mask = mask_of(members)
    copies = Part(Copies(one, other), mask | mask << size, 0)
    pairs = Groups(list(range(size)) * 2)
    _, _, taken, reached = moved_by(copies, pairs, [])
    low = [copy for copy in taken if copy < size]
    high = [copy - size for copy in taken if copy >= size]
    touched = [copy % size for copy in reached]
    return (low, high, [element for element in sorted(members) if element not in touched])


def fold_rank(matroid, count, members):
    """The rank of a set in the k-fold matroid."""
    return fold_ranks(Ranks(matroid).part_ranks(mask_of(members)), count)[-1]


def packing(matroid, count):
    """So many bases without common elements, or a dense set that shows that there are none."""
    folds = Folds(matroid)
    if folds.rank(count) == count * folds.rank(1):
        return ("packing", folds.divide(count, folds.whole()))
    return ("none", folds.dense(count, folds.whole()))


def covering(matroid, count):
    """So many independent sets that have all elements, or a dense set that shows that there are none."""
    folds = Folds(matroid)
    if folds.rank(count) == len(folds.whole()):
        return ("covering", folds.divide(count, folds.whole()))
    return ("none", folds.dense(count, folds.whole()))


class Folds:
    """A matroid with all its k-fold matroids."""

    def __init__(self, matroid):
        self.ranks = Ranks(matroid)
        self.known = self.ranks.part_ranks(mask_of(self.whole()))

    def whole(self):
        """All elements."""
        return list(range(self.ranks.size()))

    def rank(self, count):
        """The rank of all elements in the k-fold matroid."""
        return fold_ranks(self.known, count)[-1]

    def parted(self, count, members):
        """The two sets and the dense set of a set by the (k - 1)-fold matroid and the matroid."""
        return divided_by(Fold(self.known, count - 1), self.ranks, members)

    def divide(self, count, members):
        """The k sets into which a set is divided."""
        if count == 0:
            return []
        rest, last, _ = self.parted(count, members)
        return self.divide(count - 1, rest) + [last]

    def dense(self, count, members):
        """The dense set of k-fold division of a set."""
        if count == 0:
            return members
        _, _, inner = self.parted(count, members)
        return self.dense(count - 1, inner)
