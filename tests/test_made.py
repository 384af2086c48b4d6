"""The ranks of matroids, lines made of other lines included: points 5, 7 and 8."""

import random
import unittest
from itertools import product

from definitions import (
    count_of, made_count, members_of, orders_of, ranks_of_lines, some_lines, some_matroid, some_matroids, union_depth,
)
from samples import FOURS, LONG_LINES

from bestsets import made
from bestsets.lines import fault, size
from bestsets.made import dual_of, line_rank, rank

TRIANGLE = ("graph", 3, ((0, 1), (1, 2), (2, 0)))


def made_lines(count):
    """All lines made of line 0, which has so many elements, or of it and line 1, which has four."""
    lines = [("dual", 0), ("sum", 0, 1), ("sum", 1, 0), ("sum", 0, 0), ("union", 0, 0)]
    lines += [("truncate", 0, bound) for bound in (*range(count + 2), 14)]
    lines += [(name, 0, member) for name in ("delete", "contract") for member in range(count)]
    if count == 4:
        lines += [("union", 0, 1), ("union", 1, 0)]
    return lines


class MadeTest(unittest.TestCase):
    def check_every_set(self, matroid, seed=1):
        """Checks the ranks of all sets in all lines, in mixed order."""
        self.assertIsNone(fault(matroid), matroid)
        chance = random.Random(seed)
        for number, ranks in enumerate(ranks_of_lines(matroid)):
            for code, wanted in enumerate(ranks):
                members = chance.choice(orders_of(members_of(code), chance))
                self.assertEqual(line_rank(matroid, number, members), wanted, (matroid, number, members))
                if number == len(matroid) - 1:
                    self.assertEqual(rank(matroid, members), wanted, (matroid, members))

    def check_ranks(self, matroid, wanted):
        """Checks ranks in the last line that are given as pairs of a set and its rank."""
        self.assertIsNone(fault(matroid))
        for members, number in wanted:
            with self.subTest(matroid=matroid, members=members):
                self.assertEqual(rank(matroid, members), number)
                self.assertEqual(line_rank(matroid, len(matroid) - 1, members), number)

    def test_the_example_of_the_interface(self):
        self.assertEqual(rank((TRIANGLE, ("dual", 0), ("union", 0, 1)), [0, 1, 2]), 3)

    def test_a_single_line(self):
        for line in some_lines(11, 12):
            self.check_every_set((line,))

    def test_line_rank_of_each_line(self):
        matroid = (TRIANGLE, ("dual", 0), ("delete", 1, 0), ("sum", 2, 0))
        found = [line_rank(matroid, number, members) for number, members in enumerate(([2, 0, 1], [1, 0], [0], [4, 0]))]
        self.assertEqual(found, [2, 1, 1, 2])
        self.assertEqual(line_rank(matroid, 3, [4, 2, 0, 3, 1]), 3)
        self.assertEqual(line_rank(matroid[:1], 0, [0, 1, 2]), 2)

    def test_dual(self):
        self.check_ranks((TRIANGLE, ("dual", 0)), (([], 0), ([2], 1), ([1, 0], 1), ([2, 0, 1], 1)))
        self.check_ranks((("uniform", 5, 2), ("dual", 0)), (([3, 1], 2), ([4, 0, 2], 3), ([4, 3, 2, 1, 0], 3)))
        self.check_ranks((("uniform", 3, 3), ("dual", 0)), (([], 0), ([1], 0), ([2, 1, 0], 0)))
        self.check_ranks((("uniform", 3, 0), ("dual", 0)), (([1], 1), ([2, 1, 0], 3)))

    def test_delete_renumbers_higher_elements(self):
        line = ("graph", 3, ((0, 0), (0, 1), (1, 1), (1, 2)))
        self.check_ranks((line, ("delete", 0, 0)), (([0], 1), ([1], 0), ([2, 0], 2), ([2, 1], 1)))
        self.check_ranks((line, ("delete", 0, 2)), (([0], 0), ([1], 1), ([2], 1), ([2, 1, 0], 2)))
        self.check_ranks((line, ("delete", 0, 3)), (([0], 0), ([2, 1], 1), ([0, 1, 2], 1)))

    def test_contract_renumbers_higher_elements(self):
        line = ("graph", 4, ((0, 1), (1, 2), (2, 0), (2, 3)))
        self.check_ranks((line, ("contract", 0, 0)), (([0], 1), ([1, 0], 1), ([2], 1), ([2, 0], 2), ([2, 1, 0], 2)))
        self.check_ranks((line, ("contract", 0, 3)), (([1, 0], 2), ([2, 1, 0], 2)))
        self.check_ranks((line, ("contract", 0, 1)), (([1, 0], 1), ([0, 2], 2)))

    def test_contract_an_element_that_is_not_independent_alone(self):
        line = ("graph", 3, ((0, 1), (0, 0), (1, 2)))
        self.check_ranks((line, ("contract", 0, 1)), (([], 0), ([0], 1), ([1, 0], 2)))
        for loop, member in ((("uniform", 3, 0), 1), (("choices", 2, ((0,), (), (0, 1))), 1),
                             (("vectors", 2, 1, ((0,), (1,))), 0), (("bounds", 2, (((1,), 0),)), 1),
                             (("bases", 3, ((0,), (1,))), 2)):
            self.check_every_set((loop, ("contract", 0, member), ("dual", 1)))

    def test_sum_of_the_first_and_the_second_line(self):
        matroid = (("uniform", 2, 1), ("uniform", 3, 3), ("sum", 0, 1))
        self.check_ranks(matroid, (([1, 0], 1), ([4, 3, 2], 3), ([0, 2], 2), ([4, 0, 1], 2), ([4, 3, 2, 1, 0], 4)))
        matroid = (("uniform", 2, 1), ("uniform", 3, 3), ("sum", 1, 0))
        self.check_ranks(matroid, (([1, 0], 2), ([4, 3, 2], 2), ([4, 3], 1), ([4, 3, 2, 1, 0], 4)))
        self.check_every_set((("uniform", 0, 0), TRIANGLE, ("sum", 0, 1), ("sum", 2, 0)))

    def test_truncate(self):
        line = ("uniform", 4, 3)
        self.check_ranks((line, ("truncate", 0, 0)), (([], 0), ([1], 0), ([3, 2, 1, 0], 0)))
        self.check_ranks((line, ("truncate", 0, 2)), (([1], 1), ([3, 1], 2), ([3, 1, 0], 2), ([3, 2, 1, 0], 2)))
        self.check_ranks((line, ("truncate", 0, 14)), (([3, 1, 0], 3), ([3, 2, 1, 0], 3)))

    def test_union(self):
        one, other = ("bounds", 3, (((0, 1), 1), ((2,), 0))), ("bounds", 3, (((0,), 1), ((1, 2), 0)))
        self.check_ranks((one, other, ("union", 0, 1)), (([1], 1), ([1, 0], 2), ([2], 0), ([2, 1, 0], 2)))
        self.check_ranks((one, other, ("union", 1, 0)), (([1], 1), ([1, 0], 2), ([2], 0), ([2, 1, 0], 2)))

    def test_union_of_a_line_with_itself(self):
        self.check_ranks((TRIANGLE, ("union", 0, 0)), (([1], 1), ([2, 0], 2), ([2, 1, 0], 3)))
        self.check_ranks((("uniform", 5, 2), ("union", 0, 0)), (([4, 2, 0], 3), ([4, 3, 2, 1, 0], 4)))
        self.check_ranks((("uniform", 3, 0), ("union", 0, 0)), (([1], 0), ([2, 1, 0], 0)))
        for line in some_lines(12, 12):
            self.check_every_set((line, ("union", 0, 0)))

    def test_every_made_line_over_every_kind(self):
        for first in FOURS:
            for second in FOURS:
                for line in made_lines(4):
                    self.check_every_set((first, second, line))

    def test_every_made_line_over_small_lines(self):
        four = ("graph", 4, ((0, 1), (1, 2), (2, 0), (2, 3)))
        for first in some_lines(13, 4):
            for line in made_lines(count_of(first)):
                if made_count(line, (count_of(first), 4)) <= 8:
                    self.check_every_set((first, four, line))

    def test_made_lines_over_made_lines(self):
        for outer, inner in product(made_lines(4), made_lines(4)):
            counts = [4, 4, made_count(inner, (4, 4))]
            line = (outer[0],) + tuple(2 if part == 0 and at == 0 else part for at, part in enumerate(outer[1:]))
            if line[0] == "union":
                line = ("union", 2, 2)
            if made_count(line, counts) <= 8 and counts[2] > (line[2] if line[0] in ("delete", "contract") else -1):
                self.check_every_set((FOURS[0], FOURS[3], inner, line))

    def test_many_matroids_of_made_lines(self):
        for matroid in some_matroids(14, 120, 9, 6):
            self.check_every_set(matroid)

    def test_duals_of_duals(self):
        for line in some_lines(15, 4):
            ranks = ranks_of_lines((line,))[0]
            matroid = dual_of(dual_of((line,)))
            longer = (line,) + tuple(("dual", number) for number in range(19))
            for code, wanted in enumerate(ranks):
                members = members_of(code)[::-1]
                self.assertEqual(rank(matroid, members), wanted, (line, members))
                outside = ranks[len(ranks) - 1 - code]
                self.assertEqual(rank(longer, members), len(members) + outside - ranks[-1], (line, members))

    def test_unions_nested_four_deep(self):
        forest = ("graph", 5, ((0, 1), (1, 2), (2, 0), (0, 1), (3, 4), (4, 3), (2, 3)))
        sparse = ("bounds", 7, (((0, 1, 2, 3, 4, 5, 6), 1), ((5, 6), 0)))
        nested = (("union", 0, 1), ("union", 2, 1), ("union", 1, 3), ("union", 4, 2), ("union", 3, 3))
        for line in nested[:4]:
            self.check_every_set((forest, sparse) + nested[:nested.index(line) + 1])
        itself = (sparse, ("union", 0, 0), ("union", 1, 1), ("union", 2, 2), ("union", 3, 3))
        self.assertEqual(union_depth(itself, 4), 4)
        self.check_every_set(itself)
        between = (
            sparse, ("union", 0, 0), ("dual", 1), ("truncate", 2, 4), ("union", 3, 0), ("contract", 4, 2),
            ("union", 5, 5), ("delete", 6, 0), ("sum", 7, 0), ("delete", 8, 5), ("union", 9, 9), ("dual", 10),
        )
        self.assertEqual(union_depth(between, 11), 4)
        self.check_every_set(between[:8])
        self.check_some_sets(between, 60)

    def check_some_sets(self, matroid, many):
        """Checks the ranks of some sets in the last line, the set of all elements among them."""
        self.assertIsNone(fault(matroid), matroid)
        ranks = ranks_of_lines(matroid)[-1]
        chance = random.Random(7)
        codes = [0, len(ranks) - 1] + [chance.randrange(len(ranks)) for _ in range(many)]
        for code in codes:
            members = orders_of(members_of(code), chance)[-1]
            self.assertEqual(rank(matroid, members), ranks[code], (matroid, members))

    def test_14_elements(self):
        graph, loops, vectors, choices, bounds = (LONG_LINES[at] for at in (0, 2, 4, 9, 12))
        self.check_some_sets((graph, vectors, ("union", 0, 1)), 40)
        self.check_some_sets((graph, ("dual", 0), ("union", 0, 0), ("dual", 2), ("truncate", 3, 3)), 40)
        self.check_some_sets((choices, bounds, ("union", 0, 1), ("dual", 2), ("union", 3, 1)), 40)
        self.check_some_sets((loops, ("union", 0, 0), ("union", 1, 0)), 40)

    def test_14_elements_of_a_sum(self):
        matroid = (FOURS[0], FOURS[1], ("union", 0, 1), ("sum", 2, 0), ("sum", 3, 2), ("delete", 4, 3), ("sum", 0, 5))
        self.assertEqual(size(matroid + (("contract", 6, 0),)), 14)
        self.check_some_sets(matroid[:5] + (("delete", 4, 11), ("uniform", 3, 1), ("sum", 5, 6), ("dual", 7)), 60)

    def test_20_lines(self):
        chance = random.Random(17)
        for _ in range(8):
            matroid = some_matroid(chance, 20, 5)
            self.assertEqual(len(matroid), 20)
            self.check_every_set(matroid)

    def test_20_lines_of_14_elements(self):
        rest = (("dual", 1), ("truncate", 2, 9), ("sum", 4, 0), ("contract", 5, 13))
        matroid = (("uniform", 0, 0), LONG_LINES[0], LONG_LINES[4], ("dual", 1), ("union", 2, 3)) + rest
        matroid = matroid + (("delete", 8, 0), ("uniform", 2, 1), ("sum", 9, 10), ("union", 11, 1), ("dual", 12))
        matroid = matroid + (("truncate", 13, 8), ("union", 14, 13), ("dual", 15), ("dual", 16), ("dual", 17))
        matroid = matroid + (("truncate", 18, 7),)
        self.assertEqual((len(matroid), size(matroid)), (20, 14))
        self.check_some_sets(matroid, 30)

    def test_no_elements(self):
        empty = (
            ("graph", 0, ()), ("vectors", 5, 3, ()), ("choices", 2, ()), ("bounds", 0, (((), 2),)), ("uniform", 0, 0),
            ("bases", 0, ((),)),
        )
        for line in empty:
            matroid = (line, ("dual", 0), ("sum", 0, 1), ("truncate", 2, 3), ("union", 1, 3), ("union", 4, 4))
            for number in range(len(matroid)):
                self.assertEqual(line_rank(matroid, number, []), 0)
                self.assertEqual(rank(matroid[:number + 1], []), 0)
        last = (("uniform", 1, 1), ("delete", 0, 0), ("contract", 0, 0), ("union", 1, 2))
        self.assertEqual([line_rank(last, number, []) for number in range(4)], [0, 0, 0, 0])

    def test_every_line_is_a_matroid(self):
        for matroid in some_matroids(16, 40, 8, 5):
            for number in range(len(matroid)):
                count = size(matroid[:number + 1])
                ranks = [line_rank(matroid, number, members_of(code)) for code in range(2 ** count)]
                self.check_matroid(ranks, count, (matroid, number))

    def check_matroid(self, ranks, count, why):
        """Checks point 8 for the ranks of all sets by their codes."""
        self.assertEqual(ranks[0], 0, why)
        for code in range(2 ** count):
            for member in range(count):
                self.assertIn(ranks[code | 2 ** member] - ranks[code], (0, 1), why)
        for one, other in product(range(2 ** count), repeat=2):
            self.assertLessEqual(ranks[one | other] + ranks[one & other], ranks[one] + ranks[other], why)

    def test_dual_of(self):
        self.assertEqual(dual_of((TRIANGLE,)), (TRIANGLE, ("dual", 0)))
        matroid = (("uniform", 2, 1), ("dual", 0), ("union", 0, 1))
        self.assertEqual(dual_of(matroid), (("uniform", 2, 1), ("dual", 0), ("union", 0, 1), ("dual", 2)))
        self.assertEqual(dual_of((("uniform", 1, 1),) * 19)[18:], (("uniform", 1, 1), ("dual", 18)))

    def test_arguments_are_not_modified(self):
        members = [3, 1, 2]
        matroid = FOURS + (("union", 0, 1), ("dual", 6))
        rank(matroid, members)
        line_rank(matroid, 6, members)
        dual_of(matroid)
        self.assertEqual(members, [3, 1, 2])
        self.assertEqual(matroid, FOURS + (("union", 0, 1), ("dual", 6)))

    def test_the_functions_are_defined_in_their_file(self):
        for name in ("rank", "line_rank", "dual_of"):
            self.assertEqual(getattr(made, name).__module__, "bestsets.made")


if __name__ == "__main__":
    unittest.main()
