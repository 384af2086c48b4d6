"""Heaviest common sets of two matroids, with split weights that show that none is heavier."""

from bestsets.exchanges import moved_by
from bestsets.ranks import ranks_of_two
from bestsets.rules import Levels


def heaviest(first, second, weights, count):
    """None, or a heaviest common set of so many elements, the first and the second weights, and c.

    Raises DifferentSizes.
    """
    one, other = ranks_of_two(first, second)
    _, _, largest, _ = moved_by(one, other, [])
    if len(largest) < count:
        return None
    finder = LevelFinder(one, other, count)
    left = list(weights)
    right = [0] * len(weights)
    added = 0
    found, shown = finder.common_of(left, right)
    while len(found) < count:
        left = [weight if element in shown else weight + 1 for element, weight in enumerate(left)]
        right = [weight + 1 if element in shown else weight for element, weight in enumerate(right)]
        added += 1
        found, shown = finder.common_of(left, right)
    return (list(found), left, right, added)


class LevelFinder:
    """Finds largest common sets of the levels of two matroids that are truncated."""

    def __init__(self, one, other, limit):
        self.one = one
        self.other = other
        self.limit = limit
        # Levels depend only on the order of the weights, which most steps leave as it is.
        self.known = {}

    def common_of(self, left, right):
        """The common set to which the empty set is moved, and its shown set, for the weights of both matroids."""
        orders = (order_of(left), order_of(right))
        if orders not in self.known:
            one = Levels(self.one, self.limit, left)
            _, _, found, shown = moved_by(one, Levels(self.other, self.limit, right), [])
            self.known[orders] = (found, shown)
        return self.known[orders]


def order_of(weights):
    """For each weight how many different ones are lower."""
    places = {weight: place for place, weight in enumerate(sorted(set(weights)))}
    return tuple([places[weight] for weight in weights])
