"""The ranks of many sets in one matroid, each one computed once.

A set is given by its mask. Ranks of made lines come from ranks of the lines
that they are made of. A chain of lines asks for the same ranks again and
again, so the ranks that were found are kept.
"""

from bestsets.errors import DifferentSizes
from bestsets.kinds import rank_of_kind
from bestsets.lines import line_sizes
from bestsets.masks import members_of, single_masks


class Ranks:
    """The ranks of sets in the lines of a valid matroid."""

    def __init__(self, matroid):
        self.matroid = matroid
        self.sizes = line_sizes(matroid)
        # For each line the ranks that were found, by the masks of the sets.
        self.known = [{} for _ in matroid]
        # For each union a set of which all subsets are known.
        self.covered = [0] * len(matroid)

    def size(self):
        """The size of the last line."""
        return self.sizes[-1]

    def rank(self, mask):
        """The rank of a set in the last line."""
        return self.line_rank(len(self.matroid) - 1, mask)

    def takes(self, mask, element):
        """Whether an independent set stays independent in the last line with an element outside it."""
        return self.rank(mask | 1 << element) > self.rank(mask)

    def part_ranks(self, mask):
        """The ranks in the last line of all subsets of a set, in the order of sums_of."""
        return self.table(len(self.matroid) - 1, 0, single_masks(mask))

    def line_rank(self, number, mask):
        """The rank of a set in the line with this number."""
        known = self.known[number]
        if mask not in known:
            name = self.matroid[number][0]
            if name == "union":
                self.cover(number, mask)
            elif name in MADE_RANKS:
                rule = MADE_RANKS[name]
                known[mask] = rule(self, self.matroid[number], mask)
            else:
                known[mask] = rank_of_kind(self.matroid[number], members_of(mask))
        return known[mask]

    def cover(self, number, mask):
        """Finds the ranks of all subsets of a set in a union.

        What is covered already is covered again. So it grows, at most once
        for each element, and the last time costs as much as all others.
        """
        free = single_masks(mask | self.covered[number])
        _, one, other = self.matroid[number]
        sums = [x + y for x, y in zip(self.table(one, 0, free), self.table(other, 0, free))]
        self.known[number].update(dict(zip(sums_of(free), least_table(sums))))
        self.covered[number] = sum(free)

    def table(self, number, base, free):
        """The ranks of a set with each subset of single elements outside it, in the order of sums_of."""
        least = self.line_rank(number, base)
        most = self.line_rank(number, base | sum(free))
        if least == most:
            return [least] * (1 << len(free))
        rest = free[:-1]
        without = self.table(number, base, rest)
        if self.line_rank(number, base | free[-1]) == least:
            return without + without
        # An element that raises the rank of all others raises that of each part of them.
        if self.line_rank(number, base | sum(rest)) < most:
            return without + [rank + 1 for rank in without]
        return without + self.table(number, base | free[-1], rest)


def ranks_of_two(first, second):
    """The ranks of two matroids; raises DifferentSizes."""
    one = Ranks(first)
    other = Ranks(second)
    if one.size() != other.size():
        raise DifferentSizes()
    return (one, other)


def dual_rank(ranks, line, mask):
    """The rank in the dual of a line."""
    whole = (1 << ranks.sizes[line[1]]) - 1
    outside = ranks.line_rank(line[1], whole ^ mask)
    return len(members_of(mask)) + outside - ranks.line_rank(line[1], whole)


def delete_rank(ranks, line, mask):
    """The rank in a line without an element."""
    return ranks.line_rank(line[1], with_gap(mask, line[2]))


def contract_rank(ranks, line, mask):
    """The rank in a line of which an element is contracted."""
    single = 1 << line[2]
    return ranks.line_rank(line[1], with_gap(mask, line[2]) | single) - ranks.line_rank(line[1], single)


def sum_rank(ranks, line, mask):
    """The rank in the sum of two lines."""
    place = ranks.sizes[line[1]]
    high = mask >> place
    return ranks.line_rank(line[1], mask ^ (high << place)) + ranks.line_rank(line[2], high)


def truncate_rank(ranks, line, mask):
    """The rank in a line, but at most so much as it is truncated to."""
    return min(ranks.line_rank(line[1], mask), line[2])


def with_gap(mask, element):
    """The set with all elements from this one on moved up by 1."""
    low = mask & ((1 << element) - 1)
    return low | (mask ^ low) << 1


def sums_of(singles):
    """The sums of the parts of a list, those without the last one first."""
    sums = [0]
    for single in singles:
        sums = sums + [part + single for part in sums]
    return sums


def least_table(table):
    """For each set the least value, over its subsets, of the table's value plus the number of elements left out."""
    if len(table) == 1:
        return table
    half = len(table) // 2
    without = least_table(table[:half])
    return without + [min(x + 1, y) for x, y in zip(without, least_table(table[half:]))]


MADE_RANKS = {
    "dual": dual_rank,
    "delete": delete_rank,
    "contract": contract_rank,
    "sum": sum_rank,
    "truncate": truncate_rank,
}
