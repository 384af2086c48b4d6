"""Independent sets, closures, bases, circuits and exchanges: points 11 to 14."""

import random
import unittest
from itertools import combinations

from definitions import (
    bases_of, code_of, count_of, members_of, orders_of, ranks_of_lines, some_lines, some_matroids,
)
from samples import FOURS, LONG_LINES

from bestsets import sets
from bestsets.lines import fault
from bestsets.sets import base_of, bases, circuit_of, closure, exchange, is_independent

EMPTY = (("uniform", 0, 0),)
LOOPS = (("graph", 3, ((0, 1), (2, 2), (1, 0), (1, 2), (0, 0), (2, 0))),)


def samples():
    """Small matroids of single lines and of made lines, each with the ranks of all its sets."""
    single = [(line,) for line in some_lines(31, 10)]
    matroids = single + some_matroids(32, 50, 8, 6) + [(line,) for line in FOURS]
    return [(matroid, ranks_of_lines(matroid)[-1]) for matroid in matroids]


def first_base(members, ranks):
    """The base of point 12 inside a set, given the ranks of all sets by their codes."""
    taken = []
    for member in sorted(members):
        if ranks[code_of(taken + [member])] == len(taken) + 1:
            taken.append(member)
    return taken


def first_circuit(members, ranks):
    """The circuit of point 13 inside a set, or None, given the ranks of all sets by their codes."""
    def independent(inside):
        return ranks[code_of(inside)] == len(inside)

    if independent(members):
        return None
    order = sorted(members)
    start = next(order[:many] for many in range(len(order) + 1) if not independent(order[:many]))
    return [member for member in start if independent([other for other in start if other != member])]


def is_circuit(members, ranks):
    """Whether a set is not independent, but all sets with one element less are."""
    smaller = [[other for other in members if other != member] for member in members]
    return ranks[code_of(members)] < len(members) and all(ranks[code_of(part)] == len(part) for part in smaller)


def exchanged(one, leaving, coming):
    """A set with another element instead of one of its own."""
    return sorted([member for member in one if member != leaving] + [coming])


def first_exchange(one, other, member, found):
    """The lowest element of point 14, given the list of all bases."""
    coming = [y for y in sorted(other) if y not in one]
    return next(
        y for y in coming if exchanged(one, member, y) in found and exchanged(other, y, member) in found
    )


class SetsTest(unittest.TestCase):
    def check_every_set(self, check):
        """Calls a check with each small matroid, its ranks, and each set in mixed order."""
        chance = random.Random(33)
        for matroid, ranks in samples():
            self.assertIsNone(fault(matroid), matroid)
            for code in range(len(ranks)):
                check(matroid, ranks, chance.choice(orders_of(members_of(code), chance)))

    def test_is_independent(self):
        self.assertIs(is_independent(LOOPS, [5, 3]), True)
        self.assertIs(is_independent(LOOPS, [5, 3, 0]), False)
        self.assertIs(is_independent(LOOPS, [4]), False)
        self.assertIs(is_independent(LOOPS, []), True)
        self.assertIs(is_independent(EMPTY, []), True)

    def test_is_independent_for_every_set(self):
        def check(matroid, ranks, members):
            self.assertIs(is_independent(matroid, members), ranks[code_of(members)] == len(members), (matroid, members))

        self.check_every_set(check)

    def test_closure(self):
        self.assertEqual(closure(LOOPS, [2]), [0, 1, 2, 4])
        self.assertEqual(closure(LOOPS, [5, 3]), [0, 1, 2, 3, 4, 5])
        self.assertEqual(closure(LOOPS, []), [1, 4])
        self.assertEqual(closure((("uniform", 3, 3),), []), [])
        self.assertEqual(closure((("uniform", 3, 3),), [2, 0]), [0, 2])
        self.assertEqual(closure((("uniform", 3, 0),), []), [0, 1, 2])
        self.assertEqual(closure(EMPTY, []), [])

    def test_closure_of_every_set(self):
        def check(matroid, ranks, members):
            rank = ranks[code_of(members)]
            count = len(ranks).bit_length() - 1
            wanted = [e for e in range(count) if ranks[code_of(set(members) | {e})] == rank]
            self.assertEqual(closure(matroid, members), wanted, (matroid, members))
            self.assertLessEqual(set(members), set(wanted))

        self.check_every_set(check)

    def test_base_of(self):
        self.assertEqual(base_of(LOOPS, [5, 4, 3, 2, 1, 0]), [0, 3])
        self.assertEqual(base_of(LOOPS, [5, 2, 4]), [2, 5])
        self.assertEqual(base_of(LOOPS, [4, 1]), [])
        self.assertEqual(base_of(LOOPS, []), [])
        self.assertEqual(base_of((("uniform", 4, 2),), [3, 1, 2]), [1, 2])
        self.assertEqual(base_of(EMPTY, []), [])

    def test_base_of_every_set(self):
        def check(matroid, ranks, members):
            found = base_of(matroid, members)
            self.assertEqual(found, first_base(members, ranks), (matroid, members))
            self.assertLessEqual(set(found), set(members))
            self.assertEqual(len(found), ranks[code_of(members)])
            self.assertEqual(ranks[code_of(found)], len(found))

        self.check_every_set(check)

    def test_the_example_of_circuit_of(self):
        self.assertEqual(circuit_of((("graph", 2, ((0, 1), (1, 0), (0, 0))),), [0, 1, 2]), [0, 1])

    def test_circuit_of(self):
        self.assertEqual(circuit_of(LOOPS, [5, 3, 0]), [0, 3, 5])
        self.assertEqual(circuit_of(LOOPS, [2, 1, 0]), [1])
        self.assertEqual(circuit_of(LOOPS, [5, 4, 2, 0]), [0, 2])
        self.assertEqual(circuit_of((("uniform", 5, 2),), [4, 3, 2, 1]), [1, 2, 3])
        path = (("graph", 4, ((2, 3), (0, 1), (1, 2), (3, 3), (2, 0))),)
        self.assertEqual(circuit_of(path, [0, 1, 2, 4]), [1, 2, 4])

    def test_circuit_of_independent_sets(self):
        for members in ([], [0], [3, 0], [5, 2]):
            self.assertIsNone(circuit_of(LOOPS, members))
        self.assertIsNone(circuit_of(EMPTY, []))
        self.assertIsNone(circuit_of((("uniform", 4, 4),), [3, 1, 0, 2]))

    def test_circuit_of_every_set(self):
        def check(matroid, ranks, members):
            found = circuit_of(matroid, members)
            self.assertEqual(found, first_circuit(members, ranks), (matroid, members))
            if found is None:
                self.assertEqual(ranks[code_of(members)], len(members))
            else:
                self.assertLessEqual(set(found), set(members))
                self.assertTrue(is_circuit(found, ranks), (matroid, members, found))

        self.check_every_set(check)

    def test_bases(self):
        self.assertEqual(bases(LOOPS), [[0, 3], [0, 5], [2, 3], [2, 5], [3, 5]])
        self.assertEqual(bases((("uniform", 3, 2),)), [[0, 1], [0, 2], [1, 2]])
        self.assertEqual(bases((("uniform", 3, 0),)), [[]])
        self.assertEqual(bases((("uniform", 3, 3),)), [[0, 1, 2]])
        self.assertEqual(bases((("bases", 4, ((2, 3), (1, 2), (0, 2))),)), [[0, 2], [1, 2], [2, 3]])
        self.assertEqual(bases(EMPTY), [[]])

    def test_bases_of_small_matroids(self):
        for matroid, ranks in samples():
            self.assertEqual(bases(matroid), bases_of(ranks), matroid)

    def test_bases_of_12_elements(self):
        self.assertEqual(bases((("uniform", 12, 6),)), [list(members) for members in combinations(range(12), 6)])
        line = LONG_LINES[-4]
        self.assertEqual((line[0], count_of(line)), ("bases", 12))
        self.assertEqual(bases((line,)), sorted(list(base) for base in line[2]))
        nested = (line, ("union", 0, 0), ("dual", 1), ("union", 0, 2))
        self.assertEqual(bases(nested), bases_of(ranks_of_lines(nested)[-1]))

    def test_the_example_of_exchange(self):
        self.assertEqual(exchange((("vectors", 2, 2, ((1, 0), (0, 1), (1, 1), (1, 0))),), [0, 1], [2, 3], 0), 3)

    def test_exchange(self):
        graph = (("graph", 4, ((0, 1), (1, 2), (2, 3), (0, 1), (1, 2), (3, 0))),)
        self.assertEqual(exchange(graph, [0, 1, 2], [4, 5, 3], 2), 5)
        self.assertEqual(exchange(graph, [2, 1, 0], [3, 4, 5], 1), 4)
        self.assertEqual(exchange(graph, [1, 0, 2], [5, 4, 3], 0), 3)
        self.assertEqual(exchange((("uniform", 5, 2),), [4, 0], [3, 2], 4), 2)
        self.assertEqual(exchange((("uniform", 5, 2),), [4, 0], [3, 0], 4), 3)

    def test_exchange_for_all_bases_of_small_matroids(self):
        chance = random.Random(34)
        for matroid, ranks in samples():
            found = bases_of(ranks)
            for _ in range(25):
                one, other = chance.choice(found), chance.choice(found)
                for member in sorted(set(one) - set(other)):
                    mixed = chance.sample(one, len(one)), chance.sample(other, len(other))
                    wanted = first_exchange(one, other, member, found)
                    self.assertEqual(exchange(matroid, *mixed, member), wanted, (matroid, mixed, member))

    def test_matroids_of_14_elements(self):
        matroid = (LONG_LINES[0], LONG_LINES[4], ("dual", 0), ("union", 1, 2), ("truncate", 3, 10))
        ranks = ranks_of_lines(matroid)[-1]
        chance = random.Random(35)
        for _ in range(20):
            members = orders_of(members_of(chance.randrange(len(ranks))), chance)[-1]
            self.assertEqual(base_of(matroid, members), first_base(members, ranks))
            self.assertEqual(circuit_of(matroid, members), first_circuit(members, ranks))
            self.assertIs(is_independent(matroid, members), ranks[code_of(members)] == len(members))
            wanted = [e for e in range(14) if ranks[code_of(set(members) | {e})] == ranks[code_of(members)]]
            self.assertEqual(closure(matroid, members), wanted)

    def test_arguments_are_not_modified_and_lists_are_new(self):
        matroid = LOOPS + (("dual", 0), ("dual", 1))
        for members in ([5, 3], [4, 2, 0], [0, 3], []):
            for function in (is_independent, closure, base_of, circuit_of):
                before = list(members)
                found = function(matroid, members)
                self.assertEqual(members, before)
                self.assertIsNot(found, members)
        one, other = [5, 3], [2, 0]
        exchange((("uniform", 6, 2),), one, other, 5)
        self.assertEqual((one, other), ([5, 3], [2, 0]))
        self.assertEqual(matroid, LOOPS + (("dual", 0), ("dual", 1)))
        found = bases(LOOPS)
        found[0].append(9)
        self.assertEqual(bases(LOOPS)[0], [0, 3])

    def test_the_functions_are_defined_in_their_file(self):
        for name in ("is_independent", "closure", "base_of", "circuit_of", "bases", "exchange"):
            self.assertEqual(getattr(sets, name).__module__, "bestsets.sets")


if __name__ == "__main__":
    unittest.main()
