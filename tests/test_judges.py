"""Judges: points 36 to 40, and what they accept of the other answers."""

import random
import unittest

from definitions import code_of, ranks_of_lines
from samples import FOURS, LONG_LINES
from two import all_sets, common_sets, count_in, largest_sets, rich_matroid, rich_pairs, some_pairs, tester_of

from bestsets import judges
from bestsets.common import common, moved
from bestsets.judges import (
    judge_common, judge_covering, judge_heaviest, judge_no_covering, judge_no_packing, judge_packing,
)
from bestsets.parts import covering, packing
from bestsets.weighted import heaviest

EMPTY = (("uniform", 0, 0),)
TWO = (("uniform", 4, 2),)
ONE_OF_EACH = (("bounds", 4, (((0, 1), 1), ((2, 3), 1))),)
FREE = (("uniform", 4, 4),)
LOOPS = (("uniform", 4, 0),)
TRIANGLE = (("graph", 3, ((0, 1), (1, 2), (2, 0))),)


def small_pairs(seed):
    """Pairs of matroids of at most five elements."""
    fours = [((line,), ranks_of_lines((line,))[-1]) for line in FOURS]
    pairs = [(one, other) for one in fours for other in fours] + rich_pairs(seed, 10, 4)
    return pairs + [pair for pair in some_pairs(seed + 1, 6) if count_in(pair[0][1]) < 5]


def mixed(members, chance):
    """A set in mixed order."""
    return chance.sample(members, len(members))


class CommonJudgeTest(unittest.TestCase):
    def test_it_accepts(self):
        self.assertIs(judge_common(TWO, ONE_OF_EACH, [3, 0], []), True)
        self.assertIs(judge_common(TWO, ONE_OF_EACH, [0, 2], [3, 1, 2, 0]), True)
        self.assertIs(judge_common(ONE_OF_EACH, FREE, [3, 1], []), True)
        self.assertIs(judge_common(EMPTY, EMPTY, [], []), True)
        self.assertIs(judge_common(FREE, LOOPS, [], [0, 1, 2, 3]), True)
        self.assertIs(judge_common(LOOPS, FREE, [], []), True)

    def test_each_condition_broken_by_itself(self):
        # Not independent in the first, in the second matroid; too few elements; a shown set that shows nothing.
        self.assertIs(judge_common(ONE_OF_EACH, TWO, [1, 0], []), False)
        self.assertIs(judge_common(TWO, ONE_OF_EACH, [1, 0], []), False)
        self.assertIs(judge_common(TWO, ONE_OF_EACH, [3], []), False)
        self.assertIs(judge_common(TWO, ONE_OF_EACH, [3, 0], [0]), False)
        self.assertIs(judge_common(FREE, LOOPS, [], []), False)
        self.assertIs(judge_common(LOOPS, FREE, [], [0]), False)

    def test_the_first_rank_is_that_of_the_elements_outside(self):
        self.assertIs(judge_common(FREE, TWO, [0, 1], [0, 1, 2, 3]), True)
        self.assertIs(judge_common(FREE, TWO, [0, 1], []), False)
        self.assertIs(judge_common(TWO, FREE, [0, 1], [0, 1, 2, 3]), False)

    def test_every_set_and_every_shown_set_of_small_matroids(self):
        chance = random.Random(101)
        for (first, ranks), (second, others) in small_pairs(102)[::3]:
            count = count_in(ranks)
            largest = largest_sets(count, tester_of(ranks), tester_of(others))
            for members in all_sets(count):
                for shown in all_sets(count):
                    rank, other = ranks[code_of(members)], others[code_of(members)]
                    outside = len(ranks) - 1 - code_of(shown)
                    wanted = rank == other == len(members) == ranks[outside] + others[code_of(shown)]
                    found = judge_common(first, second, mixed(members, chance), mixed(shown, chance))
                    self.assertIs(found, wanted, (first, second, members, shown))
                    if wanted:
                        self.assertIn(members, largest)

    def test_the_answers_of_common_are_accepted(self):
        for (first, ranks), (second, _) in small_pairs(103) + rich_pairs(104, 30, 6):
            for found in (common(first, second), moved(first, second, list(range(count_in(ranks))))[2:]):
                self.assertIs(judge_common(first, second, *found), True)
                if found[0]:
                    self.assertIs(judge_common(first, second, found[0][1:], found[1]), False)

    def test_14_elements_and_20_lines(self):
        large = [(line,) for line in LONG_LINES if line[0] != "bases"]
        large.append((LONG_LINES[0], LONG_LINES[9], ("union", 0, 1)) + tuple(("dual", at + 2) for at in range(17)))
        self.assertEqual(len(large[-1]), 20)
        for first in large:
            for second in large:
                found = common(first, second)
                self.assertIs(judge_common(first, second, found[0][::-1], found[1][::-1]), True)
                self.assertIs(judge_common(first, second, found[0][:-1], found[1]), found[0] == [])


class PackingJudgeTest(unittest.TestCase):
    def test_packings(self):
        self.assertIs(judge_packing(TWO, [[3, 0], [1, 2]]), True)
        self.assertIs(judge_packing(TWO, [[2, 1]]), True)
        self.assertIs(judge_packing(TWO, []), True)
        self.assertIs(judge_packing(EMPTY, [[], []]), True)
        self.assertIs(judge_packing(LOOPS, [[]] * 14), True)

    def test_each_condition_of_a_packing_broken_by_itself(self):
        self.assertIs(judge_packing(TWO, [[3, 0], [1]]), False)
        self.assertIs(judge_packing(TWO, [[3, 0, 1]]), False)
        self.assertIs(judge_packing(ONE_OF_EACH, [[0, 1], [2, 3]]), False)
        self.assertIs(judge_packing(TWO, [[3, 0], [0, 2]]), False)
        self.assertIs(judge_packing(TWO, [[3, 0], [1, 2], [3, 0]]), False)
        self.assertIs(judge_packing(TWO, [[0, 1], []]), False)
        self.assertIs(judge_packing(LOOPS, [[1]]), False)

    def test_no_packing(self):
        self.assertIs(judge_no_packing(TWO, 3, []), True)
        self.assertIs(judge_no_packing(TWO, 2, []), False)
        self.assertIs(judge_no_packing(TRIANGLE, 2, []), True)
        self.assertIs(judge_no_packing(TRIANGLE, 2, [2]), False)
        bridge = (("graph", 3, ((0, 1), (0, 1), (1, 2))),)
        self.assertIs(judge_no_packing(bridge, 2, [1, 0]), True)
        self.assertIs(judge_no_packing(bridge, 2, [2]), False)
        self.assertIs(judge_no_packing(bridge, 1, [1, 0]), False)
        for count in (0, 1, 14):
            self.assertIs(judge_no_packing(LOOPS, count, [3, 1]), False)
            self.assertIs(judge_no_packing(EMPTY, count, []), False)

    def test_coverings(self):
        self.assertIs(judge_covering(TWO, [[3, 0], [1, 2]]), True)
        self.assertIs(judge_covering(TWO, [[3, 0], [2, 0], [], [1]]), True)
        self.assertIs(judge_covering(EMPTY, []), True)
        self.assertIs(judge_covering(EMPTY, [[], []]), True)

    def test_each_condition_of_a_covering_broken_by_itself(self):
        self.assertIs(judge_covering(TWO, [[3, 0], [2]]), False)
        self.assertIs(judge_covering(TWO, []), False)
        self.assertIs(judge_covering(TWO, [[]]), False)
        self.assertIs(judge_covering(ONE_OF_EACH, [[0, 1], [2], [3]]), False)
        self.assertIs(judge_covering(TWO, [[3, 0, 1], [2, 0]]), False)
        self.assertIs(judge_covering(LOOPS, [[0], [1], [2], [3]]), False)

    def test_no_covering(self):
        self.assertIs(judge_no_covering(TWO, 1, [3, 0, 2]), True)
        self.assertIs(judge_no_covering(TWO, 1, [3, 0]), False)
        self.assertIs(judge_no_covering(TWO, 2, [3, 0, 1, 2]), False)
        self.assertIs(judge_no_covering(TWO, 0, [1]), True)
        self.assertIs(judge_no_covering(TWO, 0, []), False)
        self.assertIs(judge_no_covering(LOOPS, 14, [2]), True)
        self.assertIs(judge_no_covering(EMPTY, 0, []), False)

    def test_every_set_of_small_matroids(self):
        chance = random.Random(105)
        for (matroid, ranks), _ in small_pairs(106)[::3]:
            count = count_in(ranks)
            for members in all_sets(count):
                rank = ranks[code_of(members)]
                for many in (0, 1, 2, 3, 14):
                    outside = count - len(members)
                    wanted = outside < many * (ranks[-1] - rank)
                    self.assertIs(judge_no_packing(matroid, many, mixed(members, chance)), wanted)
                    wanted = len(members) > many * rank
                    self.assertIs(judge_no_covering(matroid, many, mixed(members, chance)), wanted)
                for other in all_sets(count):
                    sets = [mixed(members, chance), mixed(other, chance)]
                    self.check_two(matroid, ranks, sets)

    def check_two(self, matroid, ranks, sets):
        """Checks both judges of lists for a list of two sets."""
        codes = [code_of(members) for members in sets]
        independent = all(ranks[code] == len(members) for code, members in zip(codes, sets))
        are_bases = independent and all(len(members) == ranks[-1] for members in sets)
        self.assertIs(judge_packing(matroid, sets), are_bases and codes[0] & codes[1] == 0)
        self.assertIs(judge_covering(matroid, sets), independent and codes[0] | codes[1] == len(ranks) - 1)

    def test_the_answers_of_packing_and_covering_are_accepted(self):
        chance = random.Random(107)
        matroids = [matroid for (matroid, _), _ in small_pairs(108)] + [rich_matroid(7, chance) for _ in range(20)]
        matroids += [(("graph", 6, tuple(tuple(chance.sample(range(6), 2)) for _ in range(10))),) for _ in range(5)]
        for matroid in matroids:
            for count in range(7):
                for call, judge, judge_none in (
                    (packing, judge_packing, judge_no_packing), (covering, judge_covering, judge_no_covering),
                ):
                    word, shown = call(matroid, count)
                    if word == "none":
                        self.assertIs(judge_none(matroid, count, shown), True, (matroid, count, shown))
                    else:
                        self.assertEqual(len(shown), count)
                        self.assertIs(judge(matroid, shown), True, (matroid, count, shown))


class HeaviestJudgeTest(unittest.TestCase):
    def test_it_accepts(self):
        self.assertIs(judge_heaviest(TWO, FREE, [5, 1, 3, 0], 2, [2, 0], [5, 1, 3, 0], [0] * 4), True)
        self.assertIs(judge_heaviest(FREE, TWO, [5, 1, 3, 0], 2, [0, 2], [0] * 4, [5, 1, 3, 0]), True)
        self.assertIs(judge_heaviest(TWO, FREE, [5, 1, 3, 0], 0, [], [5, 1, 3, 0], [0] * 4), True)
        self.assertIs(judge_heaviest(EMPTY, EMPTY, [], 0, [], [], []), True)
        self.assertIs(judge_heaviest(TWO, FREE, [4] * 4, 2, [3, 1], [4] * 4, [0] * 4), True)

    def test_negative_weights(self):
        self.assertIs(judge_heaviest(TWO, FREE, [-5, -1, -3, 0], 2, [3, 1], [-5, -1, -3, 0], [0] * 4), True)
        self.assertIs(judge_heaviest(TWO, FREE, [-5, -1, -3, 0], 2, [3, 2], [-5, -1, -3, 0], [0] * 4), False)
        self.assertIs(judge_heaviest(TWO, FREE, [-5] * 4, 1, [2], [-2] * 4, [-3] * 4), True)
        self.assertIs(judge_heaviest(TWO, FREE, [1, 2, 3, 4], 1, [3], [-1] * 4, [2, 3, 4, 5]), True)

    def test_each_condition_broken_by_itself(self):
        weights, zeros = [5, 1, 3, 0], [0] * 4
        # Not independent in the first, in the second matroid; another number of elements.
        self.assertIs(judge_heaviest(ONE_OF_EACH, FREE, zeros, 2, [1, 0], zeros, zeros), False)
        self.assertIs(judge_heaviest(FREE, ONE_OF_EACH, zeros, 2, [1, 0], zeros, zeros), False)
        self.assertIs(judge_heaviest(TWO, FREE, weights, 1, [2, 0], weights, zeros), False)
        self.assertIs(judge_heaviest(TWO, FREE, weights, 3, [2, 0], weights, zeros), False)
        # Weights that do not add up, for one element or in sum.
        self.assertIs(judge_heaviest(TWO, FREE, weights, 2, [2, 0], [5, 1, 3, 0], [0, 0, 0, 1]), False)
        self.assertIs(judge_heaviest(TWO, FREE, weights, 2, [2, 0], [5, 1, 3, 0], [0, 0, 1, -1]), False)
        # A greater sum in the first, in the second matroid.
        self.assertIs(judge_heaviest(TWO, FREE, weights, 2, [1, 0], weights, zeros), False)
        self.assertIs(judge_heaviest(TWO, FREE, weights, 2, [1, 0], zeros, weights), False)

    def test_lists_of_another_length(self):
        weights, zeros = [5, 1, 3, 0], [0] * 4
        for one, two in (
            (weights[:3], zeros), (weights + [0], zeros), (weights, zeros[:3]), (weights, zeros + [0]), ([], zeros),
            (weights, []), (weights[:3], zeros[:3]), (weights + [0], zeros + [0]), ([], []),
        ):
            self.assertIs(judge_heaviest(TWO, FREE, weights, 2, [2, 0], one, two), False)
        self.assertIs(judge_heaviest(EMPTY, EMPTY, [], 0, [], [0], []), False)
        self.assertIs(judge_heaviest(EMPTY, EMPTY, [], 0, [], [], [0]), False)

    def test_every_set_of_small_matroids(self):
        chance = random.Random(109)
        accepted = 0
        for (first, ranks), (second, others) in small_pairs(110)[::2]:
            count = count_in(ranks)
            for _ in range(3):
                one = [chance.randint(-2, 2) for _ in range(count)]
                two = [chance.randint(-2, 2) for _ in range(count)]
                weights = [left + right for left, right in zip(one, two)]
                for members in all_sets(count):
                    wanted = is_greatest(ranks, members, one) and is_greatest(others, members, two)
                    shuffled = mixed(members, chance)
                    found = judge_heaviest(first, second, weights, len(members), shuffled, one, two)
                    self.assertIs(found, wanted, (first, second, members, one, two))
                    accepted += wanted and len(members) > 1
        self.assertGreater(accepted, 20)

    def test_the_answers_of_heaviest_are_accepted(self):
        chance = random.Random(111)
        for (first, ranks), (second, others) in small_pairs(112) + rich_pairs(113, 30, 6):
            count = count_in(ranks)
            weights = [chance.choice((0, 100, chance.randint(0, 100))) for _ in range(count)]
            heaviest_by_count = {}
            for members in common_sets(count, tester_of(ranks), tester_of(others)):
                weight = sum(weights[e] for e in members)
                heaviest_by_count[len(members)] = max(weight, heaviest_by_count.get(len(members), 0))
            for many, weight in heaviest_by_count.items():
                members, one, two, c = heaviest(first, second, weights, many)
                one = [left - c for left in one]
                self.assertIs(judge_heaviest(first, second, weights, many, members[::-1], one, two), True)
                self.assertEqual(sum(weights[e] for e in members), weight)

    def test_14_elements(self):
        chance = random.Random(114)
        for at, other in ((0, 12), (9, 3), (4, 9), (15, 16), (12, 5)):
            first, second = (LONG_LINES[at],), (LONG_LINES[other],)
            weights = [chance.randint(0, 100) for _ in range(14)]
            for many in range(len(common(first, second)[0]) + 1):
                members, one, two, c = heaviest(first, second, weights, many)
                one = [left - c for left in one]
                self.assertIs(judge_heaviest(first, second, weights, many, members, one, two), True)

    def test_arguments_are_not_modified(self):
        members, shown, sets = [3, 0], [2, 1], [[3, 0], [2, 1]]
        judge_common(TWO, ONE_OF_EACH, members, shown)
        judge_packing(TWO, sets)
        judge_covering(TWO, sets)
        judge_no_packing(TWO, 3, members)
        judge_no_covering(TWO, 1, shown)
        one, two, weights = [5, 1, 3, 0], [0] * 4, [5, 1, 3, 0]
        judge_heaviest(TWO, FREE, weights, 2, members, one, two)
        self.assertEqual((members, shown, sets), ([3, 0], [2, 1], [[3, 0], [2, 1]]))
        self.assertEqual((one, two, weights), ([5, 1, 3, 0], [0] * 4, [5, 1, 3, 0]))

    def test_the_functions_are_defined_in_their_file(self):
        for name in (
            "judge_common", "judge_packing", "judge_no_packing", "judge_covering", "judge_no_covering",
            "judge_heaviest",
        ):
            self.assertEqual(getattr(judges, name).__module__, "bestsets.judges")


def is_greatest(ranks, members, weights):
    """Whether a set is independent and no independent set with as many elements has a greater weight."""
    independent = tester_of(ranks)
    sums = [
        sum(weights[e] for e in other) for other in all_sets(count_in(ranks))
        if len(other) == len(members) and independent(other)
    ]
    return independent(members) and sum(weights[e] for e in members) == max(sums)


if __name__ == "__main__":
    unittest.main()
