"""Best sets by weights, and families of sets for which taking the best element first fails."""

from bestsets.masks import mask_of, members_of
from bestsets.ranks import Ranks
from bestsets.sets import taken_of


def best_set(matroid, weights):
    """The best set, its weight and the certificate that no independent set has a greater one."""
    ranks = Ranks(matroid)
    pairs = sorted([(-weight, member) for member, weight in enumerate(weights)])
    taken = sorted(taken_of(ranks, [member for _, member in pairs]))
    return (taken, sum([weights[member] for member in taken]), certificate_of(ranks, weights))


def certificate_of(ranks, weights):
    """For each weight, in descending order, the rank of all elements with at least this weight."""
    pairs = []
    for least in sorted(set(weights))[::-1]:
        heavy = [member for member, weight in enumerate(weights) if weight >= least]
        pairs.append((least, ranks.rank(mask_of(heavy))))
    return pairs


def family_fault(count, sets):
    """None for the family of a matroid, otherwise two sets of it and weights that show that it is none."""
    family = family_of(count, [mask_of(members) for members in sets])
    by_length = lengths_of(family)
    for smaller in family:
        length = len(members_of(smaller))
        addable = addable_to(smaller, family, count)
        for larger in by_length.get(length + 1, []):
            if larger & addable == 0:
                return (members_of(smaller), members_of(larger), weights_of(count, smaller, larger))
    return None


def family_of(count, masks):
    """The subsets of the given sets, in ascending order, as the keys of a dict."""
    return {code: True for code in range(1 << count) if is_inside_one(code, masks)}


def is_inside_one(code, masks):
    """Whether a set is a subset of one of the given sets."""
    return any(code & ~mask == 0 for mask in masks)


def lengths_of(family):
    """For each number of elements the sets of the family that have as many, in ascending order."""
    by_length = {}
    for mask in family:
        by_length.setdefault(len(members_of(mask)), []).append(mask)
    return by_length


def addable_to(mask, family, count):
    """The elements outside a set that can be added to it within the family."""
    singles = [1 << member for member in range(count)]
    return sum([single for single in singles if mask & single == 0 and (mask | single) in family])


def weights_of(count, smaller, larger):
    """Weights by which the elements of the smaller set are taken first, although the larger set weighs more."""
    length = len(members_of(smaller))
    weights = [0] * count
    for member in members_of(larger):
        weights[member] = length + 1
    for member in members_of(smaller):
        weights[member] = length + 2
    return weights
