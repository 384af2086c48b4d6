"""Independent sets, closures, bases, circuits and exchanges."""

from itertools import combinations

from bestsets.masks import mask_of, members_of
from bestsets.ranks import Ranks


def is_independent(matroid, members):
    """Whether a set is independent."""
    return Ranks(matroid).rank(mask_of(members)) == len(members)


def closure(matroid, members):
    """The elements with which a set has no greater rank."""
    ranks = Ranks(matroid)
    mask = mask_of(members)
    least = ranks.rank(mask)
    return [member for member in range(ranks.size()) if ranks.rank(mask | 1 << member) == least]


def base_of(matroid, members):
    """The base inside a set that is found by taking its elements in ascending order."""
    return taken_of(Ranks(matroid), sorted(members))


def taken_of(ranks, order):
    """The elements that are taken in this order, each one with which those taken stay independent."""
    taken = []
    mask = 0
    for member in order:
        if ranks.rank(mask | 1 << member) > len(taken):
            taken.append(member)
            mask = mask | 1 << member
    return taken


def circuit_of(matroid, members):
    """The first circuit inside a set, or None for an independent set."""
    ranks = Ranks(matroid)
    mask = 0
    start = []
    for member in sorted(members):
        start.append(member)
        mask = mask | 1 << member
        if ranks.rank(mask) < len(start):
            return [other for other in start if ranks.rank(mask ^ 1 << other) == len(start) - 1]
    return None


def bases(matroid):
    """All bases in ascending order."""
    ranks = Ranks(matroid)
    most = ranks.rank((1 << ranks.size()) - 1)
    return [base for base in sets_of(ranks.size(), most) if ranks.rank(mask_of(base)) == most]


def sets_of(size, count):
    """All sets of so many of the elements, in ascending order."""
    return [list(members) for members in combinations(range(size), count)]


def exchange(matroid, one, other, element):
    """The lowest element of the other base that can be exchanged for an element of one base in both."""
    ranks = Ranks(matroid)
    first = mask_of(one)
    second = mask_of(other)
    for member in members_of(second & ~first):
        both = 1 << element | 1 << member
        if ranks.rank(first ^ both) == len(one) and ranks.rank(second ^ both) == len(one):
            return member
    return None
