"""Judges, which accept an answer only if it holds, without finding one themselves."""

from bestsets.masks import mask_of
from bestsets.ranks import Ranks
from bestsets.sets import is_independent, taken_of


def judge_common(first, second, members, shown):
    """Whether a common set is a largest one, as the shown set shows it."""
    if not is_independent(first, members) or not is_independent(second, members):
        return False
    mask = mask_of(shown)
    return len(members) == rank_outside(Ranks(first), mask) + Ranks(second).rank(mask)


def rank_outside(ranks, mask):
    """The rank of the elements outside a set."""
    return ranks.rank(whole_of(ranks) ^ mask)


def whole_of(ranks):
    """The set of all elements."""
    return (1 << ranks.size()) - 1


def judge_packing(matroid, sets):
    """Whether the sets are bases without common elements."""
    ranks = Ranks(matroid)
    most = ranks.rank(whole_of(ranks))
    taken = 0
    for members in sets:
        mask = mask_of(members)
        if mask & taken != 0 or len(members) != most or ranks.rank(mask) != most:
            return False
        taken = taken | mask
    return True


def judge_no_packing(matroid, count, members):
    """Whether a set shows that there are not so many bases without common elements."""
    ranks = Ranks(matroid)
    missing = ranks.rank(whole_of(ranks)) - ranks.rank(mask_of(members))
    return ranks.size() - len(members) < count * missing


def judge_covering(matroid, sets):
    """Whether the sets are independent, and each element is in one of them."""
    ranks = Ranks(matroid)
    taken = 0
    for members in sets:
        mask = mask_of(members)
        if ranks.rank(mask) != len(members):
            return False
        taken = taken | mask
    return taken == whole_of(ranks)


def judge_no_covering(matroid, count, members):
    """Whether a set shows that so many independent sets do not have all elements together."""
    return len(members) > count * Ranks(matroid).rank(mask_of(members))


def judge_heaviest(first, second, weights, count, members, one, two):
    """Whether a common set of so many elements is a heaviest one, as the split weights show it."""
    if len(one) != len(weights) or len(two) != len(weights) or len(members) != count:
        return False
    if any(left + right != weight for left, right, weight in zip(one, two, weights)):
        return False
    return is_heaviest(first, one, members) and is_heaviest(second, two, members)


def is_heaviest(matroid, weights, members):
    """Whether a set is independent and no independent set with as many elements has a greater weight."""
    ranks = Ranks(matroid)
    if ranks.rank(mask_of(members)) != len(members):
        return False
    pairs = sorted([(-weight, element) for element, weight in enumerate(weights)])
    taken = taken_of(ranks, [element for _, element in pairs])[:len(members)]
    return sum_of(members, weights) >= sum_of(taken, weights)


def sum_of(members, weights):
    """The weight of a set."""
    return sum([weights[element] for element in members])
