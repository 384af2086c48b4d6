"""Heaviest common sets and split weights: points 30 to 32."""

import random
import unittest

from definitions import code_of, ranks_of_lines
from samples import FOURS, LONG_LINES
from two import common_sets, count_in, moved_by_words, rich_pairs, some_pairs, tester_of

from bestsets import weighted
from bestsets.errors import DifferentSizes
from bestsets.weighted import heaviest

EMPTY = (("uniform", 0, 0),)
PATH = (("bounds", 3, (((0, 1), 1),)),), (("bounds", 3, (((1, 2), 1),)),)


def level_tester(ranks, most, weights):
    """The function that tells whether a set is independent in the levels of the matroid truncated to most."""
    def rank(members):
        return min(ranks[code_of(members)], most)

    def level_rank(members):
        total = 0
        for weight in set(weights):
            heavier = {e for e, other in enumerate(weights) if other > weight}
            total += rank(heavier | {e for e in members if weights[e] == weight}) - rank(heavier)
        return total

    return lambda members: level_rank(members) == len(members)


def heaviest_by_words(ranks, others, weights, many):
    """The answer of point 32, found step by step."""
    count = count_in(ranks)
    if len(moved_by_words(count, tester_of(ranks), tester_of(others), [])[2]) < many:
        return None
    one, two, c = list(weights), [0] * count, 0
    while True:
        levels = level_tester(ranks, many, one), level_tester(others, many, two)
        _, _, found, shown = moved_by_words(count, *levels, [])
        if len(found) == many:
            return (found, one, two, c)
        for e in range(count):
            if e in shown:
                two[e] += 1
            else:
                one[e] += 1
        c += 1


def total(members, weights):
    """The weight of a set."""
    return sum(weights[e] for e in members)


class WeightedTest(unittest.TestCase):
    def check(self, first, second, ranks, others, weights):
        """Checks the answers for every count, and returns those that are not None."""
        count = count_in(ranks)
        by_length = {}
        for members in common_sets(count, tester_of(ranks), tester_of(others)):
            by_length.setdefault(len(members), []).append(members)
        found = []
        for many in range(15):
            answer = heaviest(first, second, weights, many)
            self.assertEqual(answer, heaviest_by_words(ranks, others, weights, many), (first, second, weights, many))
            self.assertEqual(answer is None, many not in by_length)
            if answer is not None:
                self.check_split(answer, ranks, others, weights, many)
                best = max(total(members, weights) for members in by_length[many])
                self.assertEqual(total(answer[0], weights), best)
                found.append(answer)
        return found

    def check_split(self, answer, ranks, others, weights, many):
        """Checks what point 30 says of a split and a set."""
        members, one, two, c = answer
        self.assertEqual(len(members), many)
        self.assertEqual(members, sorted(members))
        self.assertEqual([left + right for left, right in zip(one, two)], [weight + c for weight in weights])
        for table, part in ((ranks, one), (others, two)):
            self.assertEqual(table[code_of(members)], many)
            count = count_in(ranks)
            if count <= 7:
                independent = [s for s in common_sets(count, tester_of(table), tester_of(table)) if len(s) == many]
                self.assertEqual(total(members, part), max(total(s, part) for s in independent))

    def test_the_example_of_the_interface(self):
        self.assertEqual(heaviest((("uniform", 2, 1),), (("uniform", 2, 1),), [3, 5], 1), ([1], [3, 5], [0, 0], 0))

    def test_heaviest(self):
        self.assertEqual(heaviest(*PATH, [1, 3, 1], 1), ([1], [1, 3, 1], [0, 0, 0], 0))
        # The heaviest element is in no common set of two.
        members, one, two, c = heaviest(*PATH, [1, 3, 1], 2)
        self.assertEqual(members, [0, 2])
        self.assertEqual([left + right - c for left, right in zip(one, two)], [1, 3, 1])
        self.assertGreater(c, 0)
        self.assertIsNone(heaviest(*PATH, [1, 3, 1], 3))

    def test_a_count_of_0(self):
        self.assertEqual(heaviest(*PATH, [7, 0, 100], 0), ([], [7, 0, 100], [0, 0, 0], 0))
        self.assertEqual(heaviest(EMPTY, EMPTY, [], 0), ([], [], [], 0))
        self.assertEqual(heaviest((("uniform", 2, 0),), (("uniform", 2, 2),), [5, 6], 0), ([], [5, 6], [0, 0], 0))

    def test_none(self):
        self.assertIsNone(heaviest(EMPTY, EMPTY, [], 1))
        self.assertIsNone(heaviest((("uniform", 2, 0),), (("uniform", 2, 2),), [5, 6], 1))
        for many in range(3, 15):
            self.assertIsNone(heaviest(*PATH, [100, 100, 100], many))

    def test_equal_weights(self):
        for weight in (0, 1, 100):
            answer = heaviest(*PATH, [weight] * 3, 2)
            self.assertEqual(answer, ([0, 2], [weight] * 3, [0] * 3, 0))
            self.assertEqual(heaviest(*PATH, [weight] * 3, 1), ([0], [weight] * 3, [0] * 3, 0))

    def test_small_matroids(self):
        chance = random.Random(81)
        fours = [((line,), ranks_of_lines((line,))[-1]) for line in FOURS]
        pairs = [(a, b) for a in fours for b in fours] + some_pairs(82, 5) + rich_pairs(83, 30, 6)
        steps = []
        for (first, ranks), (second, others) in pairs:
            for most in (0, 3, 30):
                weights = [chance.randint(0, most) for _ in range(count_in(ranks))]
                steps += [c for _, _, _, c in self.check(first, second, ranks, others, weights)]
        self.assertGreater(len([c for c in steps if c > 3]), 20)

    def test_weights_of_100(self):
        chance = random.Random(84)
        steps = []
        for (first, ranks), (second, others) in rich_pairs(85, 6, 6)[::2]:
            weights = [chance.choice((0, 50, 100, chance.randint(0, 100))) for _ in range(6)]
            steps += [c for _, _, _, c in self.check(first, second, ranks, others, weights)]
        self.assertGreater(max(steps), 40)

    def test_14_elements(self):
        chance = random.Random(86)
        graph, vectors, choices, bounds = ((LONG_LINES[at],) for at in (0, 3, 9, 12))
        union = (LONG_LINES[2], LONG_LINES[5], ("union", 0, 1), ("truncate", 2, 7))
        for first, second in ((graph, bounds), (choices, vectors), (union, choices), (bounds, graph)):
            ranks, others = ranks_of_lines(first)[-1], ranks_of_lines(second)[-1]
            one, other = tester_of(ranks), tester_of(others)
            most = len(moved_by_words(14, one, other, [])[2])
            weights = [chance.randint(0, 8) for _ in range(14)]
            for many in (2, most - 1, most):
                answer = heaviest(first, second, weights, many)
                self.assertEqual(answer, heaviest_by_words(ranks, others, weights, many))
                self.check_split(answer, ranks, others, weights, many)
            self.assertIsNone(heaviest(first, second, weights, most + 1))
            heavy = [100 * weight // 8 for weight in weights]
            answer = heaviest(first, second, heavy, most)
            self.check_split(answer, ranks, others, heavy, most)
            codes = [code for code in range(len(ranks)) if ranks[code] == others[code] == bin(code).count("1") == most]
            best = max(sum(heavy[e] for e in range(14) if code >> e & 1) for code in codes)
            self.assertEqual(total(answer[0], heavy), best)

    def test_different_sizes(self):
        for many in (0, 1, 14):
            with self.assertRaises(DifferentSizes):
                heaviest(PATH[0], (("uniform", 2, 1),), [1, 2, 3], many)
            with self.assertRaises(DifferentSizes):
                heaviest(EMPTY, PATH[0], [], many)
        self.assertEqual(heaviest(PATH[0] + (("delete", 0, 2),), (("uniform", 2, 1),), [1, 2], 1)[0], [1])

    def test_arguments_are_not_modified_and_lists_are_new(self):
        weights = [1, 3, 1]
        for many in range(4):
            answer = heaviest(*PATH, weights, many)
            self.assertEqual(weights, [1, 3, 1])
            if answer is not None:
                self.assertIsNot(answer[1], weights)
                self.assertEqual([type(part) for part in answer], [list, list, list, int])
                self.assertIs(type(answer), tuple)

    def test_the_function_is_defined_in_its_file(self):
        self.assertEqual(weighted.heaviest.__module__, "bestsets.weighted")


if __name__ == "__main__":
    unittest.main()
