"""Best sets and families: points 15 to 17."""

import random
import unittest
from itertools import chain, combinations

from definitions import bases_of, code_of, count_of, members_of, ranks_of_lines, some_lines, some_matroids
from samples import FOURS, LONG_LINES

from bestsets import greedy
from bestsets.greedy import best_set, family_fault

TRIANGLE = (("graph", 3, ((0, 1), (1, 2), (2, 0))),)


def taken_by(weights, may_be_taken):
    """The elements that are taken as in point 15, in their order."""
    taken = []
    for member in sorted(range(len(weights)), key=lambda member: (-weights[member], member)):
        if may_be_taken(taken + [member]):
            taken.append(member)
    return taken


def total(members, weights):
    """The weight of a set."""
    return sum(weights[member] for member in members)


def sum_of(certificate):
    """The sum of point 16 of a certificate."""
    lower = [weight for weight, _ in certificate[1:]] + [0]
    return sum(rank * (weight - below) for (weight, rank), below in zip(certificate, lower))


def subsets_of(sets):
    """The family of all subsets of the sets."""
    return {frozenset(part) for one in sets for many in range(len(one) + 1) for part in combinations(one, many)}


def family_fault_by_definition(count, sets):
    """The fault of point 17, or None."""
    family = subsets_of(sets)
    for smaller in sorted(family, key=code_of):
        for larger in sorted(family, key=code_of):
            if len(larger) == len(smaller) + 1 and not any(smaller | {e} in family for e in larger - smaller):
                weights = [0] * count
                for member in larger:
                    weights[member] = len(smaller) + 1
                for member in smaller:
                    weights[member] = len(smaller) + 2
                return (sorted(smaller), sorted(larger), weights)
    return None


class BestSetTest(unittest.TestCase):
    def check(self, matroid, weights, ranks):
        """Checks the best set and its certificate against the document, given the ranks by their codes."""
        def independent(members):
            return ranks[code_of(members)] == len(members)

        found = best_set(matroid, weights)
        wanted = sorted(taken_by(weights, independent))
        certificate = [
            (least, ranks[code_of(member for member, weight in enumerate(weights) if weight >= least)])
            for least in sorted(set(weights), reverse=True)
        ]
        self.assertEqual(found, (wanted, total(wanted, weights), certificate), (matroid, weights))
        self.assertEqual(found[1], sum_of(found[2]))
        self.assertEqual(found[1], max(total(base, weights) for base in bases_of(ranks)))

    def test_the_example_of_the_interface(self):
        self.assertEqual(best_set(TRIANGLE, [1, 5, 3]), ([1, 2], 8, [(5, 1), (3, 2), (1, 2)]))

    def test_the_kinds_of_the_values(self):
        found = best_set(TRIANGLE, [1, 5, 3])
        self.assertEqual([type(part) for part in found], [list, int, list])
        self.assertEqual([type(pair) for pair in found[2]], [tuple] * 3)
        self.assertIs(type(found), tuple)

    def test_equal_weights(self):
        self.assertEqual(best_set(TRIANGLE, [4, 4, 4]), ([0, 1], 8, [(4, 2)]))
        self.assertEqual(best_set(TRIANGLE, [2, 4, 2]), ([0, 1], 6, [(4, 1), (2, 2)]))
        self.assertEqual(best_set(TRIANGLE, [4, 2, 2]), ([0, 1], 6, [(4, 1), (2, 2)]))
        self.assertEqual(best_set(TRIANGLE, [2, 2, 4]), ([0, 2], 6, [(4, 1), (2, 2)]))
        self.assertEqual(best_set((("uniform", 4, 1),), [3, 7, 7, 7]), ([1], 7, [(7, 1), (3, 1)]))

    def test_weights_of_0_and_of_1000(self):
        self.assertEqual(best_set(TRIANGLE, [0, 0, 0]), ([0, 1], 0, [(0, 2)]))
        self.assertEqual(best_set(TRIANGLE, [0, 0, 1000]), ([0, 2], 1000, [(1000, 1), (0, 2)]))
        self.assertEqual(best_set(TRIANGLE, [1000, 1000, 1000]), ([0, 1], 2000, [(1000, 2)]))
        self.assertEqual(best_set(TRIANGLE, [1000, 0, 999]), ([0, 2], 1999, [(1000, 1), (999, 2), (0, 2)]))

    def test_the_order_of_weights_is_that_of_integers(self):
        self.assertEqual(best_set((("uniform", 3, 1),), [9, 10, 100]), ([2], 100, [(100, 1), (10, 1), (9, 1)]))

    def test_elements_that_are_not_independent_alone(self):
        self.assertEqual(best_set((("uniform", 2, 0),), [7, 3]), ([], 0, [(7, 0), (3, 0)]))
        loop = (("graph", 2, ((0, 0), (0, 1))),)
        self.assertEqual(best_set(loop, [9, 2]), ([1], 2, [(9, 0), (2, 1)]))

    def test_no_elements(self):
        self.assertEqual(best_set((("uniform", 0, 0),), []), ([], 0, []))
        self.assertEqual(best_set((("uniform", 1, 1), ("delete", 0, 0)), []), ([], 0, []))

    def test_small_matroids(self):
        chance = random.Random(41)
        matroids = [(line,) for line in some_lines(42, 15)] + some_matroids(43, 100, 8, 6) + [(line,) for line in FOURS]
        for matroid in matroids:
            ranks = ranks_of_lines(matroid)[-1]
            count = len(ranks).bit_length() - 1
            for most in (0, 1, 3, 1000):
                self.check(matroid, [chance.randint(0, most) for _ in range(count)], ranks)
            self.check(matroid, [chance.choice((0, 1, 999, 1000)) for _ in range(count)], ranks)

    def test_14_elements(self):
        chance = random.Random(44)
        union = (LONG_LINES[0], LONG_LINES[9], ("union", 0, 1), ("dual", 2), ("union", 3, 0))
        for matroid in (union, (LONG_LINES[12],), (LONG_LINES[4], ("dual", 0))):
            ranks = ranks_of_lines(matroid)[-1]
            self.assertEqual(len(ranks), 2 ** 14)
            for most in (2, 20, 1000):
                self.check(matroid, [chance.randint(0, most) for _ in range(14)], ranks)

    def test_arguments_are_not_modified(self):
        weights = [3, 9, 3]
        best_set(TRIANGLE, weights)
        self.assertEqual(weights, [3, 9, 3])


class FamilyTest(unittest.TestCase):
    def check(self, count, sets):
        """Checks the fault of a family against the document, and what the document says of its weights."""
        found = family_fault(count, sets)
        self.assertEqual(found, family_fault_by_definition(count, sets), (count, sets))
        if found is not None:
            _, larger, weights = found
            family = subsets_of(sets)
            taken = taken_by(weights, lambda members: frozenset(members) in family)
            self.assertLess(total(taken, weights), total(larger, weights), (count, sets))
        return found

    def test_the_example_of_the_interface(self):
        self.assertEqual(family_fault(3, [[0], [1, 2]]), ([0], [1, 2], [3, 2, 2]))

    def test_the_kinds_of_the_values(self):
        found = family_fault(3, [[0], [1, 2]])
        self.assertIs(type(found), tuple)
        self.assertEqual([type(part) for part in found], [list, list, list])

    def test_the_empty_set_alone(self):
        for count in (0, 1, 5, 10):
            self.assertIsNone(family_fault(count, [[]]))
            self.assertIsNone(family_fault(count, [[], []]))

    def test_the_same_set_twice(self):
        self.assertIsNone(family_fault(3, [[0, 1], [1, 0]]))
        self.assertEqual(family_fault(3, [[0], [2, 1], [0], [1, 2]]), ([0], [1, 2], [3, 2, 2]))

    def test_sets_inside_others(self):
        self.assertIsNone(family_fault(3, [[0], [1, 0], [], [1]]))
        self.assertEqual(family_fault(4, [[1], [3, 2], [2]]), ([1], [2, 3], [0, 3, 2, 2]))

    def test_the_lowest_codes_count(self):
        # [0] has a lower code than [3], and [1, 2] than [1, 3].
        self.assertEqual(family_fault(4, [[3], [0], [1, 2]]), ([0], [1, 2], [3, 2, 2, 0]))
        self.assertEqual(family_fault(4, [[0], [2, 3], [1, 3], [1, 2]]), ([0], [1, 2], [3, 2, 2, 0]))
        self.assertEqual(family_fault(4, [[0], [2, 3], [1, 3]]), ([0], [1, 3], [3, 2, 0, 2]))
        # [0, 4] comes first as a list, but [1, 2] has the lower code.
        self.assertEqual(self.check(5, [[0, 4], [1, 2], [3]])[0], [0])
        self.assertEqual(self.check(5, [[3], [0, 4], [1, 2]])[0], [0])
        self.assertEqual(family_fault(5, [[3], [0, 4], [0, 1, 2, 4]]), ([3], [0, 1], [2, 2, 0, 3, 0]))

    def test_larger_sets_that_share_elements_with_smaller_ones(self):
        self.assertEqual(family_fault(5, [[0, 1], [0, 2, 3]]), ([1], [2, 3], [0, 3, 2, 2, 0]))
        self.assertEqual(family_fault(4, [[0, 1], [0, 2, 3], [1, 2], [1, 3]]), ([0, 1], [0, 2, 3], [4, 4, 3, 3]))

    def test_families_of_matroids(self):
        for line in some_lines(45, 25):
            found = bases_of(ranks_of_lines((line,))[-1])
            if len(found) <= 100:
                self.assertIsNone(self.check(count_of(line), found))
                self.assertIsNone(family_fault(10, found[::-1]))

    def test_all_families_of_three_elements(self):
        sets = list(chain.from_iterable(combinations(range(3), many) for many in range(4)))
        for code in range(1, 2 ** len(sets)):
            self.check(3, [list(one) for one in (sets[at] for at in members_of(code))])

    def test_all_families_of_pairs(self):
        for count in (4, 5):
            sets = list(combinations(range(count), 2))
            for code in range(1, 2 ** len(sets), 1 if count == 4 else 5):
                self.check(count, [list(sets[at]) for at in members_of(code)])

    def test_some_families(self):
        chance = random.Random(46)
        for _ in range(150):
            count = chance.randint(1, 6)
            sets = [chance.sample(range(count), chance.randint(0, count)) for _ in range(chance.randint(1, 8))]
            self.check(count, sets)

    def test_families_of_matroids_with_one_base_missing(self):
        for line in FOURS + (("uniform", 6, 3), ("uniform", 5, 4)):
            found = bases_of(ranks_of_lines((line,))[-1])
            for base in found if len(found) > 1 else []:
                self.check(count_of(line), [other for other in found if other != base])

    def test_10_elements(self):
        fives = [list(members) for members in combinations(range(10), 5)]
        threes = [list(members) for members in combinations(range(10), 3)]
        self.assertIsNone(family_fault(10, [list(range(10))]))
        self.assertIsNone(family_fault(10, [list(range(10))] * 100))
        self.assertEqual(
            family_fault(10, fives[:100]), ([5, 6, 7], [3, 4, 5, 6], [0, 0, 0, 4, 4, 5, 5, 5, 0, 0])
        )
        self.assertEqual(len(threes), 120)
        self.check(10, threes[:100])
        self.check(10, threes[20:])
        self.assertIsNone(self.check(10, [[a, b] for a in range(5) for b in range(5, 10)]))
        self.assertEqual(family_fault(10, [[9], [7, 8]]), ([9], [7, 8], [0, 0, 0, 0, 0, 0, 0, 2, 2, 3]))

    def test_arguments_are_not_modified(self):
        sets = [[2, 1], [0]]
        family_fault(3, sets)
        self.assertEqual(sets, [[2, 1], [0]])

    def test_the_functions_are_defined_in_their_file(self):
        for name in ("best_set", "family_fault"):
            self.assertEqual(getattr(greedy, name).__module__, "bestsets.greedy")


if __name__ == "__main__":
    unittest.main()
