"""Common sets, layers, rows of exchanges and moved sets: points 18 to 22."""

import random
import unittest

from definitions import code_of, orders_of, ranks_of_lines, some_matroid
from samples import FOURS, LONG_LINES
from two import (
    all_sets, common_sets, count_in, largest_sets, layers_by_words, moved_by_words, rich_pairs, row_by_words,
    some_pairs, tester_of,
)

from bestsets import common as common_file
from bestsets.common import common, layers, moved, row_of
from bestsets.errors import DifferentSizes
from bestsets.lines import fault, size

FIRST = (("bounds", 3, (((0, 1), 1),)),)
SECOND = (("bounds", 3, (((0, 2), 1),)),)
EMPTY = (("uniform", 0, 0),)
LOOPS = (("uniform", 4, 0),)
FREE = (("uniform", 4, 4),)
# Tasks 0 to 4 of two workers, each worker with one task, and each day with one task.
WORKERS = (("choices", 2, ((0,), (0, 1), (0,), (1,), ())),)
DAYS = (("choices", 3, ((0,), (0,), (1,), (0,), (2,))),)


def kinds_of_pairs():
    """All pairs of lines of four elements, one for each kind, with the ranks of all their sets."""
    fours = [((line,), ranks_of_lines((line,))[-1]) for line in FOURS]
    return [(one, other) for one in fours for other in fours]


class CommonTest(unittest.TestCase):
    def for_every_pair(self, check):
        """Calls a check with two small matroids, their size and their functions."""
        pairs = kinds_of_pairs() + some_pairs(51, 6) + rich_pairs(52, 20, 6) + rich_pairs(53, 6, 7)
        self.assertGreater(len(pairs), 250)
        for (first, ranks), (second, others) in pairs:
            check(first, second, count_in(ranks), tester_of(ranks), tester_of(others))

    def test_the_examples_of_the_interface(self):
        self.assertEqual(common(FIRST, SECOND), ([1, 2], []))
        self.assertEqual(moved(FIRST, SECOND, [0]), ([0], [[2, 0, 1]], [1, 2], []))

    def test_layers(self):
        self.assertEqual(layers(FIRST, SECOND, []), [[0, 1, 2]])
        self.assertEqual(layers(FIRST, SECOND, [0]), [[2], [0], [1]])
        self.assertEqual(layers(FIRST, SECOND, [1]), [[2], [1], [0]])
        self.assertEqual(layers(FIRST, SECOND, [2, 1]), [])
        self.assertEqual(layers(WORKERS, DAYS, [0]), [[1, 3], [0], [2]])
        self.assertEqual(layers(WORKERS, DAYS, [2]), [[1, 3], [2], [0]])
        self.assertEqual(layers(WORKERS, DAYS, [3, 2]), [])

    def test_the_first_layer_would_be_empty(self):
        self.assertEqual(layers(LOOPS, FREE, []), [])
        self.assertEqual(layers(FREE, FREE, [3, 1, 0, 2]), [])
        self.assertEqual(layers((("uniform", 4, 2),), FREE, [3, 1]), [])
        self.assertIsNone(row_of((("uniform", 4, 2),), FREE, [3, 1]))

    def test_layers_end_though_elements_are_left(self):
        self.assertEqual(layers(FREE, LOOPS, []), [[0, 1, 2, 3]])
        one, other = (("bounds", 4, (((0, 1), 1),)),), (("bounds", 4, (((0, 2), 1), ((3,), 0))),)
        self.assertEqual(layers(one, other, [0]), [[2, 3], [0], [1]])
        self.assertEqual(layers(other, one, [0]), [[1], [0], [2]])

    def test_layers_go_on_behind_a_last_element(self):
        # Element 2 can be added at once; the layers do not end there.
        one, other = (("bounds", 4, (((0, 1), 1), ((0, 3), 1))),), (("uniform", 4, 4),)
        self.assertEqual(layers(one, other, [0]), [[2], [0], [1, 3]])
        self.assertEqual(row_of(one, other, [0]), [2])

    def test_layers_of_every_common_set(self):
        def check(first, second, count, one, other):
            for members in common_sets(count, one, other):
                found = layers(first, second, members[::-1])
                self.assertEqual(found, layers_by_words(count, one, other, members), (first, second, members))
                reached = [e for layer in found for e in layer]
                self.assertEqual(len(reached), len(set(reached)))
                self.assertTrue(all(layer and layer == sorted(layer) for layer in found))

        self.for_every_pair(check)

    def test_rows(self):
        self.assertEqual(row_of(FIRST, SECOND, []), [0])
        self.assertEqual(row_of(FIRST, SECOND, [0]), [2, 0, 1])
        self.assertEqual(row_of(FIRST, SECOND, [1]), [2])
        self.assertIsNone(row_of(FIRST, SECOND, [1, 2]))
        self.assertEqual(row_of(WORKERS, DAYS, [0]), [1, 0, 2])
        self.assertEqual(row_of(WORKERS, DAYS, [2]), [1])
        self.assertIsNone(row_of(WORKERS, DAYS, [3, 2]))
        self.assertIsNone(row_of(FREE, LOOPS, []))

    def test_the_lowest_last_element_and_the_lowest_elements_before_it(self):
        # The last element is the lowest of its layer, not the one that the lowest first element leads to.
        one = (("bounds", 6, (((2, 4), 1), ((3, 5), 1), ((0, 1), 2))),)
        other = (("bounds", 6, (((0, 3), 1), ((1, 2), 1))),)
        self.assertEqual(layers(one, other, [2, 3]), [[0, 1], [2, 3], [4, 5]])
        self.assertEqual(row_of(one, other, [3, 2]), [1, 2, 4])
        # Several elements lead to the same one: the lowest of them goes before it.
        many = (("bounds", 6, (((0, 1, 2, 3), 1),)),)
        self.assertEqual(layers((("bounds", 6, (((3, 4, 5), 1),)),), many, [3]), [[0, 1, 2], [3], [4, 5]])
        self.assertEqual(row_of((("bounds", 6, (((3, 4, 5), 1),)),), many, [3]), [0, 3, 4])

    def test_rows_of_every_common_set(self):
        longest = []

        def check(first, second, count, one, other):
            most = len(largest_sets(count, one, other)[0])
            for members in common_sets(count, one, other):
                row = row_of(first, second, members[::-1])
                self.assertEqual(row, row_by_words(count, one, other, members), (first, second, members))
                self.assertEqual(row is None, len(members) == most, (first, second, members))
                if row is not None:
                    changed = set(members) ^ set(row)
                    self.assertTrue(one(changed) and other(changed))
                    self.assertEqual(len(changed), len(members) + 1)
                    self.assertNotIn(row[0], members)
                    longest.append(len(row))

        self.for_every_pair(check)
        self.assertGreaterEqual(max(longest), 5)

    def test_moved(self):
        self.assertEqual(moved(FIRST, SECOND, []), ([], [[0], [2, 0, 1]], [1, 2], []))
        self.assertEqual(moved(FIRST, SECOND, [2, 1, 0]), ([0], [[2, 0, 1]], [1, 2], []))
        self.assertEqual(moved(FIRST, SECOND, [2, 1]), ([1, 2], [], [1, 2], []))
        self.assertEqual(moved(WORKERS, DAYS, [4, 1, 0]), ([0], [[1, 0, 2]], [1, 2], []))
        self.assertEqual(moved(FREE, LOOPS, [1, 3]), ([], [], [], [0, 1, 2, 3]))
        self.assertEqual(moved(LOOPS, FREE, [1, 3]), ([], [], [], []))
        self.assertEqual(moved(FREE, (("uniform", 4, 1),), [3, 2]), ([2], [], [2], [0, 1, 2, 3]))

    def test_every_set_is_moved(self):
        chance = random.Random(52)

        def check(first, second, count, one, other):
            for members in all_sets(count):
                mixed = chance.choice(orders_of(members, chance))
                found = moved(first, second, mixed)
                self.assertEqual(found, moved_by_words(count, one, other, members), (first, second, mixed))
                if one(members) and other(members):
                    self.assertEqual(found[0], members)
                self.assertEqual(len(found[2]), len(found[0]) + len(found[1]))

        self.for_every_pair(check)

    def test_common_sets_and_shown_sets(self):
        for (first, ranks), (second, others) in kinds_of_pairs() + some_pairs(55, 8) + rich_pairs(56, 20, 6):
            count = count_in(ranks)
            most = max(len(members) for members in common_sets(count, tester_of(ranks), tester_of(others)))
            found, shown = common(first, second)
            self.assertEqual(moved(first, second, [])[2:], (found, shown))
            self.check_best(found, shown, ranks, others, most)
            for members in all_sets(count)[::5]:
                self.check_best(*moved(first, second, members)[2:], ranks, others, most)

    def check_best(self, found, shown, ranks, others, most):
        """Checks point 22 for a common set and a shown set, given the ranks of both matroids."""
        self.assertEqual(len(found), most)
        whole = len(ranks) - 1
        for code in range(len(ranks)):
            self.assertLessEqual(most, ranks[whole - code] + others[code])
        self.assertEqual(most, ranks[whole - code_of(shown)] + others[code_of(shown)])
        self.assertEqual(ranks[code_of(found)], most)
        self.assertEqual(others[code_of(found)], most)
        self.assertEqual((sorted(found), sorted(shown)), (found, shown))

    def check_large(self, first, second, seed):
        """Checks moved sets, layers and rows of matroids that are too large to try all their sets."""
        self.assertIsNone(fault(first))
        self.assertIsNone(fault(second))
        ranks, others = ranks_of_lines(first)[-1], ranks_of_lines(second)[-1]
        one, other = tester_of(ranks), tester_of(others)
        count = count_in(ranks)
        chance = random.Random(seed)
        most = min(ranks[len(ranks) - 1 - code] + others[code] for code in range(len(ranks)))
        self.check_best(*common(first, second), ranks, others, most)
        for many in (0, count // 2, count):
            members = chance.sample(range(count), many)
            found = moved(first, second, members)
            self.assertEqual(found, moved_by_words(count, one, other, members))
            self.check_best(*found[2:], ranks, others, most)
            self.assertEqual(layers(first, second, found[0]), layers_by_words(count, one, other, found[0]))
            self.assertEqual(row_of(first, second, found[0]), row_by_words(count, one, other, found[0]))

    def test_14_elements(self):
        graph, vectors, choices, bounds = ((LONG_LINES[at],) for at in (0, 3, 9, 12))
        self.assertEqual([size(one) for one in (graph, vectors, choices, bounds)], [14] * 4)
        self.check_large(graph, bounds, 54)
        self.check_large(choices, vectors, 55)
        self.check_large(bounds, choices, 56)
        union = (LONG_LINES[2], LONG_LINES[10], ("union", 0, 1), ("dual", 2), ("truncate", 3, 9))
        self.check_large(union, graph, 57)
        self.check_large(graph + (("dual", 0),), union, 58)

    def test_20_lines(self):
        chance = random.Random(59)
        found = {}
        while len(found) < 4:
            matroid = some_matroid(chance, 20, 6)
            self.assertEqual(len(matroid), 20)
            count = size(matroid)
            if count > 2 and count in found:
                self.check_large(found[count], matroid, 60)
                self.check_large(matroid, found[count], 61)
            found[count] = matroid

    def test_20_lines_of_14_elements(self):
        graph, bounds, vectors = LONG_LINES[0], LONG_LINES[12], LONG_LINES[4]
        first = (graph, bounds) + tuple(("dual", at + 1) for at in range(17)) + (("truncate", 18, 8),)
        second = (vectors, ("truncate", 0, 3)) + (("dual", 1), ("dual", 2)) * 9
        second = second[:4] + tuple(("dual", at + 3) for at in range(15)) + (("union", 18, 1),)
        self.assertEqual((len(first), len(second), size(first), size(second)), (20, 20, 14, 14))
        self.check_large(first, second, 62)

    def test_no_elements(self):
        for first in (EMPTY, (("graph", 0, ()), ("dual", 0)), (("uniform", 1, 1), ("delete", 0, 0))):
            self.assertEqual(common(first, EMPTY), ([], []))
            self.assertEqual(layers(EMPTY, first, []), [])
            self.assertIsNone(row_of(first, EMPTY, []))
            self.assertEqual(moved(EMPTY, first, []), ([], [], [], []))

    def test_different_sizes(self):
        three, four = (("uniform", 3, 2),), (("graph", 2, ((0, 1),) * 4),)
        made = four + (("delete", 0, 3),)
        for first, second in ((three, four), (four, three), (made, four), (EMPTY, three), (four, EMPTY)):
            for call in (
                lambda: common(first, second), lambda: layers(first, second, []),
                lambda: row_of(first, second, []), lambda: moved(first, second, []),
            ):
                self.assertRaises(DifferentSizes, call)
        # The sizes of the last lines are those that count.
        self.assertEqual(common(made, three), ([0], []))
        self.assertEqual(layers(three, made, []), [[0, 1, 2]])
        self.assertEqual(row_of(made, three, []), [0])
        self.assertEqual(moved(three, made, [2]), ([2], [], [2], [0, 1, 2]))

    def test_the_kinds_of_the_values(self):
        for found in (common(FIRST, SECOND), moved(FIRST, SECOND, [0])):
            self.assertIs(type(found), tuple)
            self.assertEqual([type(part) for part in found], [list] * len(found))
        self.assertEqual([type(row) for row in moved(FIRST, SECOND, [0])[1]], [list])
        self.assertEqual([type(layer) for layer in layers(FIRST, SECOND, [0])], [list] * 3)
        self.assertIs(type(row_of(FIRST, SECOND, [0])), list)

    def test_arguments_are_not_modified_and_lists_are_new(self):
        for members in ([2, 1], [1, 2], [0], []):
            before = list(members)
            found = moved(FIRST, SECOND, members)
            self.assertIsNot(found[0], members)
            self.assertIsNot(found[2], members)
            self.assertIsNot(found[0], found[2])
            layers(FIRST, SECOND, members)
            row_of(FIRST, SECOND, members)
            self.assertEqual(members, before)
        common(FIRST, SECOND)[0].append(7)
        self.assertEqual(common(FIRST, SECOND), ([1, 2], []))

    def test_the_functions_are_defined_in_their_file(self):
        for name in ("common", "layers", "row_of", "moved"):
            self.assertEqual(getattr(common_file, name).__module__, "bestsets.common")


if __name__ == "__main__":
    unittest.main()
