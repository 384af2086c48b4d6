"""Divided sets, k-fold matroids, packings and coverings: points 23 to 27."""

import random
import unittest

from definitions import code_of, made_ranks, members_of, orders_of, parts_of, ranks_of_lines, some_lines, some_matroids
from samples import FOURS, LONG_LINES
from two import all_sets, count_in, divided_by_words, rich_matroid, rich_pairs, some_pairs, tester_of

from bestsets import parts
from bestsets.errors import DifferentSizes
from bestsets.lines import size
from bestsets.parts import covering, divided, fold_rank, packing

EMPTY = (("uniform", 0, 0),)
TRIANGLE = (("graph", 3, ((0, 1), (1, 2), (2, 0))),)
# The complete graph of four vertices: two trees have all its arcs.
FOUR_VERTICES = (("graph", 4, ((0, 1), (0, 2), (0, 3), (1, 2), (1, 3), (2, 3))),)


def fold_tables(ranks, most):
    """For k from 0 on the ranks of all sets in the k-fold matroid, from the definition of unions."""
    count = count_in(ranks)
    tables = [[0] * len(ranks)]
    for _ in range(most):
        tables.append(made_ranks(("union", 0, 1), (count, count), (tables[-1], ranks)))
    return tables


def formula_tables(ranks, most):
    """The same by point 24, carried out for each k."""
    tables = [[0] * len(ranks)]
    for _ in range(most):
        tables.append([least_value(code, tables[-1], ranks) for code in range(len(ranks))])
    return tables


def least_value(code, ranks, others):
    """The least value of point 24 over all subsets of the set with this code."""
    return min(ranks[part] + others[part] + len(members_of(code - part)) for part in parts_of(code))


def division_of(tables, k, members):
    """The k sets of point 25."""
    if k == 0:
        return []
    rest, last, _ = divided_by_words(count_in(tables[1]), tester_of(tables[k - 1]), tester_of(tables[1]), members)
    return division_of(tables, k - 1, rest) + [last]


def dense_of(tables, k, members):
    """The dense set of k-fold division."""
    if k == 0:
        return members
    _, _, inner = divided_by_words(count_in(tables[1]), tester_of(tables[k - 1]), tester_of(tables[1]), members)
    return dense_of(tables, k - 1, inner)


def samples(seed, many):
    """Small matroids of every kind and of made lines, with the ranks of all their sets."""
    chance = random.Random(seed)
    matroids = [(line,) for line in FOURS] + [(line,) for line in some_lines(seed, many)]
    matroids += some_matroids(seed + 1, 3 * many, 6, 6) + [rich_matroid(6, chance) for _ in range(2 * many)]
    return [(matroid, ranks_of_lines(matroid)[-1]) for matroid in matroids]


class DividedTest(unittest.TestCase):
    def test_divided(self):
        one, other = (("uniform", 4, 2),), (("bounds", 4, (((0, 1), 1), ((2, 3), 0))),)
        self.assertEqual(divided(one, other, [3, 2, 1, 0]), ([1, 2], [0], [0, 1, 2, 3]))
        self.assertEqual(divided(other, one, [3, 2, 1, 0]), ([0], [1, 2], [0, 1, 2, 3]))
        self.assertEqual(divided(one, other, [3, 0, 2]), ([2, 3], [0], [0, 2, 3]))
        self.assertEqual(divided(one, other, [2]), ([2], [], [2]))
        self.assertEqual(divided(TRIANGLE, TRIANGLE, [2, 0, 1]), ([0, 1], [2], []))

    def test_elements_of_rank_0_are_dense(self):
        loops = (("bounds", 3, (((0, 2), 0),)),)
        self.assertEqual(divided(loops, loops, [2, 1, 0]), ([1], [], [0, 2]))
        self.assertEqual(divided(loops, loops, [2]), ([], [], [2]))

    def test_the_empty_set(self):
        self.assertEqual(divided(TRIANGLE, TRIANGLE, []), ([], [], []))
        self.assertEqual(divided(EMPTY, EMPTY, []), ([], [], []))

    def test_every_set_of_small_matroids(self):
        chance = random.Random(61)
        pairs = some_pairs(62, 4) + rich_pairs(63, 12, 5)
        self.assertGreater(len(pairs), 120)
        for (first, ranks), (second, others) in pairs:
            count = count_in(ranks)
            most = made_ranks(("union", 0, 1), (count, count), (ranks, others))
            for members in all_sets(count):
                mixed = chance.choice(orders_of(members, chance))
                found = divided(first, second, mixed)
                self.check(found, members, ranks, others)
                self.assertEqual(len(found[0]) + len(found[1]), most[code_of(members)])

    def check(self, found, members, ranks, others):
        """Checks points 23 and 24 for what a set is divided into."""
        one, other = tester_of(ranks), tester_of(others)
        self.assertEqual(found, divided_by_words(count_in(ranks), one, other, members))
        low, high, dense = found
        self.assertTrue(one(low) and other(high))
        self.assertFalse(set(low) & set(high))
        self.assertLessEqual(set(low) | set(high) | set(dense), set(members))
        value = ranks[code_of(dense)] + others[code_of(dense)] + len(members) - len(dense)
        self.assertEqual(len(low) + len(high), value)
        self.assertEqual(value, least_value(code_of(members), ranks, others))

    def test_14_elements(self):
        chance = random.Random(64)
        graph, vectors, choices, bounds = ((LONG_LINES[at],) for at in (0, 4, 10, 12))
        union = (LONG_LINES[2], LONG_LINES[5], ("union", 0, 1), ("truncate", 2, 4))
        pairs = ((graph, vectors), (vectors, bounds), (choices, vectors), (union, graph), (choices, union))
        for first, second in pairs:
            self.assertEqual((size(first), size(second)), (14, 14))
            ranks, others = ranks_of_lines(first)[-1], ranks_of_lines(second)[-1]
            for many in (14, 9):
                members = chance.sample(range(14), many)
                self.check(divided(first, second, members), sorted(members), ranks, others)

    def test_different_sizes(self):
        for first, second in ((TRIANGLE, EMPTY), (EMPTY, TRIANGLE), (TRIANGLE, FOUR_VERTICES)):
            with self.assertRaises(DifferentSizes):
                divided(first, second, [])
        self.assertEqual(divided(TRIANGLE + (("dual", 0),), TRIANGLE, [0, 1, 2]), ([0], [1, 2], [0, 1, 2]))

    def test_arguments_are_not_modified_and_lists_are_new(self):
        members = [2, 0]
        found = divided(TRIANGLE, TRIANGLE, members)
        self.assertEqual(members, [2, 0])
        self.assertEqual([type(part) for part in found], [list] * 3)
        self.assertIs(type(found), tuple)
        found[2].append(1)
        self.assertEqual(divided(TRIANGLE, TRIANGLE, members), ([0, 2], [], []))


class FoldTest(unittest.TestCase):
    def test_fold_rank(self):
        self.assertEqual([fold_rank((("uniform", 5, 2),), k, [4, 2, 0, 3, 1]) for k in range(7)], [0, 2, 4, 5, 5, 5, 5])
        self.assertEqual([fold_rank((("uniform", 5, 2),), k, [4, 2, 0]) for k in range(7)], [0, 2, 3, 3, 3, 3, 3])
        loops = (("bounds", 4, (((0, 1, 2), 1), ((3,), 0))),)
        self.assertEqual([fold_rank(loops, k, [3, 2, 1, 0]) for k in range(7)], [0, 1, 2, 3, 3, 3, 3])
        self.assertEqual([fold_rank(loops, k, [3]) for k in range(7)], [0] * 7)

    def test_no_elements_and_rank_0(self):
        for k in range(7):
            self.assertEqual(fold_rank(EMPTY, k, []), 0)
            self.assertEqual(fold_rank(TRIANGLE, k, []), 0)
            self.assertEqual(fold_rank((("uniform", 3, 0),), k, [2, 0]), 0)

    def test_every_set_of_small_matroids(self):
        chance = random.Random(65)
        for matroid, ranks in samples(66, 4):
            for k, table in enumerate(fold_tables(ranks, 6)):
                for members in all_sets(count_in(ranks)):
                    mixed = orders_of(members, chance)[-1]
                    self.assertEqual(fold_rank(matroid, k, mixed), table[code_of(members)], (matroid, k, mixed))

    def test_14_elements(self):
        chance = random.Random(67)
        union = (LONG_LINES[2], LONG_LINES[14], LONG_LINES[5], ("union", 0, 1), ("union", 3, 2))
        for matroid in ((LONG_LINES[0],), (LONG_LINES[6],), (LONG_LINES[9], ("dual", 0)), union):
            ranks = ranks_of_lines(matroid)[-1]
            for k in range(7):
                members = chance.sample(range(14), 14 - k)
                code = code_of(members)
                least = min(k * ranks[part] + len(members_of(code - part)) for part in parts_of(code))
                self.assertEqual(fold_rank(matroid, k, members), least)

    def test_arguments_are_not_modified(self):
        members = [2, 0]
        fold_rank(TRIANGLE, 2, members)
        self.assertEqual(members, [2, 0])


class PackingTest(unittest.TestCase):
    def test_the_example_of_the_interface(self):
        self.assertEqual(packing((("uniform", 2, 1),), 2), ("packing", [[0], [1]]))

    def test_packing(self):
        self.assertEqual(packing(TRIANGLE, 1), ("packing", [[0, 1]]))
        self.assertEqual(packing(TRIANGLE, 2), ("none", []))
        self.assertEqual(packing(FOUR_VERTICES, 2)[0], "packing")
        self.assertEqual(packing(FOUR_VERTICES, 3), ("none", []))
        self.assertEqual(packing((("uniform", 5, 2),), 2), ("packing", [[0, 1], [2, 3]]))
        bridge = (("graph", 4, ((0, 1), (0, 1), (1, 2), (2, 3), (2, 3))),)
        self.assertEqual(packing(bridge, 2), ("none", [0, 1, 3, 4]))

    def test_covering(self):
        self.assertEqual(covering(TRIANGLE, 1), ("none", [0, 1, 2]))
        self.assertEqual(covering(TRIANGLE, 2), ("covering", [[0, 1], [2]]))
        self.assertEqual(covering(TRIANGLE, 3), ("covering", [[0, 1], [2], []]))
        self.assertEqual(covering(FOUR_VERTICES, 2)[0], "covering")
        self.assertEqual(covering((("uniform", 5, 2),), 3), ("covering", [[0, 1], [2, 3], [4]]))
        thick = (("graph", 4, ((0, 1), (1, 2), (2, 3), (2, 3), (3, 2))),)
        self.assertEqual(covering(thick, 2), ("none", [2, 3, 4]))

    def test_k_of_0(self):
        self.assertEqual(packing(TRIANGLE, 0), ("packing", []))
        self.assertEqual(packing(EMPTY, 0), ("packing", []))
        self.assertEqual(covering(TRIANGLE, 0), ("none", [0, 1, 2]))
        self.assertEqual(covering(EMPTY, 0), ("covering", []))

    def test_no_elements_and_rank_0(self):
        zero = (("uniform", 3, 0),)
        for k in range(1, 7):
            self.assertEqual(packing(EMPTY, k), ("packing", [[]] * k))
            self.assertEqual(covering(EMPTY, k), ("covering", [[]] * k))
            self.assertEqual(packing(zero, k), ("packing", [[]] * k))
            self.assertEqual(covering(zero, k), ("none", [0, 1, 2]))

    def check(self, matroid, ranks, tables):
        """Checks points 25 to 27 for k from 0 to 6, given the ranks in the k-fold matroids."""
        whole = list(range(count_in(ranks)))
        found = []
        for k, table in enumerate(tables):
            for call, name, most in (
                (packing, "packing", k * ranks[-1]), (covering, "covering", len(whole)),
            ):
                if table[-1] == most:
                    wanted = (name, division_of(tables, k, whole))
                else:
                    wanted = ("none", dense_of(tables, k, whole))
                answer = call(matroid, k)
                self.assertEqual(answer, wanted, (matroid, k))
                self.assertIs(type(answer), tuple)
                self.check_shown(name, k, answer, ranks)
                found.append((name, answer[0]))
        return found

    def check_shown(self, name, k, answer, ranks):
        """Checks that the sets are what they are called, or that the dense set shows that there are none."""
        whole = list(range(count_in(ranks)))
        word, shown = answer
        if word == "none":
            rank = ranks[code_of(shown)]
            if name == "packing":
                self.assertLess(len(whole) - len(shown), k * (ranks[-1] - rank))
            else:
                self.assertGreater(len(shown), k * rank)
            return
        self.assertEqual(word, name)
        self.assertEqual(len(shown), k)
        taken = [e for one in shown for e in one]
        self.assertTrue(all(ranks[code_of(one)] == len(one) for one in shown))
        if name == "packing":
            self.assertEqual([len(one) for one in shown], [ranks[-1]] * k)
            self.assertEqual(len(taken), len(set(taken)))
        else:
            self.assertEqual(sorted(set(taken)), whole)

    def test_small_matroids(self):
        found = []
        for matroid, ranks in samples(68, 4):
            found += self.check(matroid, ranks, fold_tables(ranks, 6))
        for name in ("packing", "covering"):
            for word in (name, "none"):
                self.assertGreater(found.count((name, word)), 50)

    def test_10_elements(self):
        chance = random.Random(69)
        lines = [("graph", 5, tuple(tuple(chance.sample(range(5), 2)) for _ in range(10)))]
        lines.append(("vectors", 5, 3, tuple(tuple(chance.choices(range(5), k=3)) for _ in range(10))))
        lines.append(("choices", 6, tuple(tuple(sorted(chance.sample(range(6), 2))) for _ in range(10))))
        matroids = [(line,) for line in lines] + [tuple(lines[:2]) + (("union", 0, 1), ("dual", 2))]
        for matroid in matroids:
            ranks = ranks_of_lines(matroid)[-1]
            self.check(matroid, ranks, formula_tables(ranks, 6))

    def test_lists_are_new(self):
        for call in (packing, covering):
            for k in (0, 1, 2):
                before = call(TRIANGLE, k)
                call(TRIANGLE, k)[1].append(9)
                self.assertEqual(call(TRIANGLE, k), before)

    def test_the_functions_are_defined_in_their_file(self):
        for name in ("divided", "fold_rank", "packing", "covering"):
            self.assertEqual(getattr(parts, name).__module__, "bestsets.parts")


if __name__ == "__main__":
    unittest.main()
