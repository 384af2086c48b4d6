"""Tight sets, and the elements of largest common sets."""

from bestsets.exchanges import Exchanges, moved_by, reached_in
from bestsets.masks import mask_of
from bestsets.ranks import ranks_of_two
from bestsets.rules import Part


def tight(first, second):
    """The number of elements of a largest common set, the least and the greatest tight set.

    Raises DifferentSizes.
    """
    one, other = ranks_of_two(first, second)
    _, _, largest, least = moved_by(one, other, [])
    swapped = Exchanges(other, one, mask_of(largest))
    reached = reached_in(list(swapped.growing_layers()))
    return (len(largest), least, [element for element in range(one.size()) if element not in reached])


def standing(first, second):
    """The number of elements of a largest common set, and the elements that are in all and in some of them.

    Raises DifferentSizes.
    """
    one, other = ranks_of_two(first, second)
    _, _, largest, _ = moved_by(one, other, [])
    in_all = [element for element in largest if not is_spared(one, other, largest, element)]
    in_some = [element for element in range(one.size()) if is_used(one, other, largest, element)]
    return (len(largest), in_all, in_some)


def is_spared(one, other, largest, element):
    """Whether a largest common set is without an element."""
    return most_without(one, other, largest, element, 0) == len(largest)


def is_used(one, other, largest, element):
    """Whether a largest common set has an element."""
    if not one.takes(0, element) or not other.takes(0, element):
        return False
    return most_without(one, other, largest, element, 1 << element) == len(largest) - 1


def most_without(one, other, largest, element, taken):
    """How many elements besides one are in a largest common set, some elements being taken already.

    The search starts from a largest common set, so that few rows are left to find.
    """
    allowed = (1 << one.size()) - 1 ^ 1 << element
    _, _, found, _ = moved_by(Part(one, allowed, taken), Part(other, allowed, taken), largest)
    return len(found)
