"""Common sets of two matroids: layers, rows of exchanges, and largest ones."""

from bestsets.exchanges import Exchanges, moved_by
from bestsets.masks import mask_of
from bestsets.ranks import ranks_of_two


def common(first, second):
    """A largest common set, and a set that shows that none is larger; raises DifferentSizes."""
    _, _, largest, shown = moved(first, second, [])
    return (largest, shown)


def layers(first, second, members):
    """The layers of a common set, each in ascending order; raises DifferentSizes."""
    one, other = ranks_of_two(first, second)
    exchanges = Exchanges(one, other, mask_of(members))
    return list(exchanges.growing_layers())


def row_of(first, second, members):
    """The row of exchanges of a common set from its first element on, or None; raises DifferentSizes."""
    one, other = ranks_of_two(first, second)
    row, _ = Exchanges(one, other, mask_of(members)).search()
    return row


def moved(first, second, members):
    """What stays of a set, the rows, the largest common set to which it is moved, and the shown set.

    Raises DifferentSizes.
    """
    one, other = ranks_of_two(first, second)
    return moved_by(one, other, members)
