"""The ranks of sets in matroids, lines made of other lines included."""

from bestsets.masks import mask_of
from bestsets.ranks import Ranks


def rank(matroid, members):
    """The rank of a set in a matroid."""
    return line_rank(matroid, len(matroid) - 1, members)


def line_rank(matroid, number, members):
    """The rank of a set of elements of a line in that line."""
    return Ranks(matroid).line_rank(number, mask_of(members))


def dual_of(matroid):
    """The matroid followed by the dual of its last line."""
    return matroid + (("dual", len(matroid) - 1),)
