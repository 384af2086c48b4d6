"""The ranks of the kinds: points 1 and 3."""

import random
import unittest

from definitions import all_ranks, count_of, members_of, orders_of, some_lines
from samples import LONG_LINES

from bestsets import kinds
from bestsets.kinds import rank_of_kind
from bestsets.lines import fault


class KindsTest(unittest.TestCase):
    def check_ranks(self, line, wanted):
        """Checks ranks that are given as pairs of a set and its rank."""
        self.assertIsNone(fault((line,)))
        for members, rank in wanted:
            with self.subTest(line=line, members=members):
                self.assertEqual(rank_of_kind(line, members), rank)

    def test_the_example_of_the_interface(self):
        self.assertEqual(rank_of_kind(("graph", 3, ((0, 1), (1, 2), (2, 0))), [0, 1, 2]), 2)

    def test_graph_with_arcs_from_a_vertex_to_itself(self):
        line = ("graph", 2, ((0, 0), (0, 1), (1, 1)))
        self.check_ranks(line, (([], 0), ([0], 0), ([1], 1), ([2, 0], 0), ([2, 1, 0], 1)))

    def test_graph_with_several_arcs_between_two_vertices(self):
        line = ("graph", 3, ((0, 1), (1, 0), (0, 1), (1, 2)))
        self.check_ranks(line, (([0, 1], 1), ([2, 1], 1), ([2, 0, 1], 1), ([3, 2], 2), ([0, 3, 1, 2], 2)))

    def test_graph_with_longer_cycles_whatever_the_directions(self):
        line = ("graph", 5, ((0, 1), (2, 1), (2, 3), (0, 3), (3, 4)))
        self.check_ranks(line, (([0, 1, 2], 3), ([3, 1, 0, 2], 3), ([4, 0, 1], 3), ([4, 3, 2, 1, 0], 4)))

    def test_graph_of_two_parts(self):
        line = ("graph", 6, ((0, 1), (1, 2), (2, 0), (3, 4), (4, 5), (5, 3)))
        self.check_ranks(line, (([0, 3], 2), ([5, 4, 3], 2), ([0, 1, 2, 3, 4, 5], 4)))

    def test_graph_without_arcs(self):
        self.check_ranks(("graph", 0, ()), (([], 0),))
        self.check_ranks(("graph", 24, ()), (([], 0),))

    def test_vectors_modulo_each_prime(self):
        self.check_ranks(("vectors", 2, 2, ((1, 0), (0, 1), (1, 1), (0, 0))), (([2, 1, 0], 2), ([3], 0), ([2, 3], 1)))
        self.check_ranks(("vectors", 3, 2, ((1, 2), (2, 1), (1, 1))), (([1, 0], 1), ([2, 0], 2), ([0, 1, 2], 2)))
        self.check_ranks(("vectors", 5, 2, ((1, 3), (2, 1), (3, 1))), (([0, 1], 1), ([0, 2], 2), ([2, 1, 0], 2)))
        self.check_ranks(("vectors", 7, 2, ((3, 5), (1, 4), (5, 3))), (([0, 1], 1), ([0, 2], 2), ([1, 2], 2)))

    def test_the_same_vectors_depend_on_the_prime(self):
        for prime, rank in ((2, 2), (3, 3), (5, 3), (7, 3)):
            self.check_ranks(("vectors", prime, 3, ((1, 1, 0), (0, 1, 1), (1, 0, 1))), (([0, 1, 2], rank),))
        for prime, rank in ((3, 1), (5, 2), (7, 2)):
            self.check_ranks(("vectors", prime, 2, ((1, 2), (2, 1))), (([1, 0], rank),))

    def test_vectors_of_width_0(self):
        for prime in (2, 3, 5, 7):
            self.check_ranks(("vectors", prime, 0, ((), ())), (([], 0), ([1], 0), ([1, 0], 0)))
        self.check_ranks(("vectors", 2, 0, ()), (([], 0),))

    def test_vectors_of_width_8_modulo_7(self):
        # Powers of different numbers: as many vectors as the width are independent.
        powers = [tuple(number ** at % 7 for at in range(8)) for number in range(7)]
        line = ("vectors", 7, 8, tuple(powers + [tuple(2 * x % 7 for x in row) for row in powers]))
        self.check_ranks(line, ((list(range(7)), 7), (list(range(13, 6, -1)), 7), ([0, 7, 2, 9, 13], 3)))
        self.check_ranks(line, ((list(range(14)), 7), ([13, 0, 5, 6, 12], 3)))
        square = ("vectors", 7, 3, tuple(row[:3] for row in powers))
        self.check_ranks(square, (([6, 1, 3], 3), ([0, 4, 2, 5], 3), ([5, 2], 2)))

    def test_choices_that_move_to_other_things(self):
        line = ("choices", 3, ((0, 1), (0,), (1, 2), (2,)))
        self.check_ranks(line, (([0, 1], 2), ([0, 1, 2], 3), ([3, 2, 1, 0], 3), ([3, 2, 0], 3)))

    def test_choices_with_empty_tuples(self):
        line = ("choices", 2, ((), (1,), (), (1,)))
        self.check_ranks(line, (([0], 0), ([2, 0], 0), ([2, 1], 1), ([3, 1], 1), ([0, 1, 2, 3], 1)))

    def test_choices_with_no_things(self):
        self.check_ranks(("choices", 0, ((), ())), (([], 0), ([1], 0), ([1, 0], 0)))
        self.check_ranks(("choices", 0, ()), (([], 0),))
        self.check_ranks(("choices", 14, ()), (([], 0),))

    def test_bounds_with_nested_sets(self):
        line = ("bounds", 4, (((0, 1, 2), 2), ((0, 1), 1)))
        self.check_ranks(line, (([0, 1], 1), ([1, 2], 2), ([2, 1, 0], 2), ([3, 2, 1, 0], 3)))
        line = ("bounds", 4, (((0, 1), 2), ((0, 1, 2, 3), 1)))
        self.check_ranks(line, (([0, 1], 1), ([3, 2, 1, 0], 1)))

    def test_bounds_with_equal_sets(self):
        line = ("bounds", 3, (((0, 1, 2), 2), ((0, 1, 2), 1)))
        self.check_ranks(line, (([0], 1), ([2, 0], 1), ([2, 0, 1], 1)))

    def test_bounds_with_separate_sets(self):
        line = ("bounds", 5, (((0, 1), 1), ((2, 3, 4), 2)))
        self.check_ranks(line, (([0, 1], 1), ([4, 3, 2], 2), ([4, 0, 2], 3), ([0, 1, 2, 3, 4], 3)))

    def test_bounds_of_the_empty_set_and_bound_0(self):
        self.check_ranks(("bounds", 2, (((), 0),)), (([], 0), ([0], 1), ([1, 0], 2)))
        self.check_ranks(("bounds", 2, (((1,), 0), ((), 3))), (([1], 0), ([1, 0], 1)))
        self.check_ranks(("bounds", 2, (((0, 1), 0),)), (([1], 0), ([1, 0], 0)))
        self.check_ranks(("bounds", 2, (((0, 1), 14),)), (([1, 0], 2),))
        self.check_ranks(("bounds", 2, ()), (([1, 0], 2),))
        self.check_ranks(("bounds", 0, (((), 0),)), (([], 0),))

    def test_uniform_with_rank_0_and_with_rank_equal_to_the_size(self):
        self.check_ranks(("uniform", 0, 0), (([], 0),))
        self.check_ranks(("uniform", 3, 0), (([], 0), ([2], 0), ([2, 0, 1], 0)))
        self.check_ranks(("uniform", 3, 2), (([], 0), ([2], 1), ([2, 0], 2), ([2, 0, 1], 2)))
        self.check_ranks(("uniform", 3, 3), (([], 0), ([1], 1), ([2, 0, 1], 3)))

    def test_bases(self):
        line = ("bases", 4, ((1, 2), (0, 1), (1, 3)))
        self.check_ranks(line, (([], 0), ([1], 1), ([3, 0], 1), ([3, 2, 0], 1), ([0, 1], 2), ([3, 2, 1, 0], 2)))
        self.check_ranks(("bases", 0, ((),)), (([], 0),))
        self.check_ranks(("bases", 2, ((),)), (([], 0), ([1], 0), ([1, 0], 0)))

    def test_every_set_of_small_lines_by_the_definition(self):
        chance = random.Random(1)
        for line in some_lines(2, 60):
            self.assertIsNone(fault((line,)), line)
            self.check_every_set(line, chance)

    def test_every_set_of_long_lines_by_the_definition(self):
        chance = random.Random(3)
        for line in LONG_LINES:
            self.assertIsNone(fault((line,)), line)
            self.assertEqual(count_of(line), 12 if line[0] == "bases" else 14)
            self.check_every_set(line, chance)

    def check_every_set(self, line, chance):
        for code, rank in enumerate(all_ranks(line)):
            for members in orders_of(members_of(code), chance):
                self.assertEqual(rank_of_kind(line, members), rank, (line, members))

    def test_arguments_are_not_modified(self):
        for line in some_lines(4, 5):
            members = list(range(count_of(line)))[::-1]
            before = list(members)
            rank_of_kind(line, members)
            self.assertEqual(members, before)

    def test_the_function_is_defined_in_its_file(self):
        self.assertEqual(kinds.rank_of_kind.__module__, "bestsets.kinds")


if __name__ == "__main__":
    unittest.main()
