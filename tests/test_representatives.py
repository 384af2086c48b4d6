"""Representatives and matchings: points 33 to 35."""

import random
import unittest
from itertools import combinations

from definitions import code_of, orders_of, ranks_of_lines, some_choices, some_lines, some_matroids
from samples import FOURS, LONG_LINES
from two import all_sets, count_in, moved_by_words, rich_choices, rich_matroid, tester_of

from bestsets import representatives as representatives_file
from bestsets.representatives import matching, representatives

EMPTY = (("uniform", 0, 0),)
FREE = (("uniform", 3, 3),)


def different(values):
    """Whether no value stands twice."""
    return len(set(values)) == len(values)


def moved_pairs(pairs, one, other):
    """The pairs of the largest common set of matroids of pairs, and those that are reached from it."""
    def pairs_at(places):
        return [pairs[at] for at in places]

    _, _, found, reached = moved_by_words(
        len(pairs), lambda places: one(pairs_at(places)), lambda places: other(pairs_at(places)), [],
    )
    return sorted(pairs[at] for at in found), [pairs[at] for at in reached]


def representatives_by_words(ranks, sets):
    """The answer of point 33."""
    pairs = [(number, e) for number, members in enumerate(sets) for e in members]

    def of_different_sets(chosen):
        return different([number for number, _ in chosen])

    def has_full_rank(chosen):
        return ranks[code_of({e for _, e in chosen})] == len(chosen)

    found, reached = moved_pairs(pairs, of_different_sets, has_full_rank)
    too_few = [
        number for number, members in enumerate(sets) if all((number, e) in reached for e in members)
    ]
    return found, too_few


def matching_by_words(line, members):
    """The answer of point 35."""
    pairs = [(e, thing) for e, things in enumerate(line[2]) for thing in things]

    def of_different_members(chosen):
        return all(e in members for e, _ in chosen) and different([e for e, _ in chosen])

    def of_different_things(chosen):
        return different([thing for _, thing in chosen])

    found, reached = moved_pairs(pairs, of_different_members, of_different_things)
    crowd = [e for e in sorted(members) if all((e, thing) in reached for thing in line[2][e])]
    things = sorted({thing for e in crowd for thing in line[2][e]})
    return found, [e for e in sorted(members) if e not in crowd], things


def most_representatives(ranks, sets, taken=()):
    """The greatest number of representatives, tried out set by set."""
    if not sets:
        return len(taken)
    found = most_representatives(ranks, sets[1:], taken)
    for e in sets[0]:
        chosen = taken + (e,)
        if e not in taken and ranks[code_of(chosen)] == len(chosen):
            found = max(found, most_representatives(ranks, sets[1:], chosen))
    return found


class RepresentativesTest(unittest.TestCase):
    def check(self, matroid, ranks, sets):
        """Checks points 33 and 34 for a list of sets; returns the answer."""
        before = [list(members) for members in sets]
        pairs, too_few = representatives(matroid, sets)
        self.assertEqual(sets, before)
        self.assertEqual((pairs, too_few), representatives_by_words(ranks, sets), (matroid, sets))
        self.assertEqual(pairs, sorted(pairs))
        self.assertTrue(all(e in sets[number] for number, e in pairs))
        self.assertTrue(different([number for number, _ in pairs]) and different([e for _, e in pairs]))
        self.assertEqual(ranks[code_of([e for _, e in pairs])], len(pairs))
        self.assertEqual(len(pairs), self.value(ranks, sets, too_few))
        self.assertEqual(len(pairs) == len(sets), too_few == [])
        return pairs, too_few

    def value(self, ranks, sets, numbers):
        """The rank of the elements of some sets plus the number of the other sets."""
        return ranks[code_of({e for number in numbers for e in sets[number]})] + len(sets) - len(numbers)

    def test_the_example_of_the_interface(self):
        self.assertEqual(representatives(FREE, [[0], [0], [1, 2]]), ([(0, 0), (2, 1)], [0, 1]))

    def test_representatives(self):
        self.assertEqual(representatives(FREE, [[2, 0], [2], [0]]), ([(0, 2), (2, 0)], [0, 1, 2]))
        self.assertEqual(representatives(FREE, [[0, 1], [0]]), ([(0, 1), (1, 0)], []))
        triangle = (("graph", 3, ((0, 1), (1, 2), (2, 0))),)
        self.assertEqual(representatives(triangle, [[0], [1], [2]]), ([(0, 0), (1, 1)], [0, 1, 2]))

    def test_the_order_of_a_list_counts(self):
        self.assertEqual(representatives(FREE, [[0, 1, 2]]), ([(0, 0)], []))
        self.assertEqual(representatives(FREE, [[2, 1, 0]]), ([(0, 2)], []))
        self.assertEqual(representatives(FREE, [[1, 2, 0], [1, 0]]), ([(0, 1), (1, 0)], []))

    def test_no_lists_and_empty_lists(self):
        self.assertEqual(representatives(FREE, []), ([], []))
        self.assertEqual(representatives(EMPTY, []), ([], []))
        self.assertEqual(representatives(FREE, [[]]), ([], [0]))
        self.assertEqual(representatives(EMPTY, [[], []]), ([], [0, 1]))
        self.assertEqual(representatives(FREE, [[], [1], []]), ([(1, 1)], [0, 2]))

    def test_the_same_list_twice(self):
        self.assertEqual(representatives(FREE, [[0, 1]] * 2), ([(0, 0), (1, 1)], []))
        self.assertEqual(representatives(FREE, [[0, 1]] * 3)[1], [0, 1, 2])
        self.assertEqual(representatives((("uniform", 3, 0),), [[0, 1]] * 2), ([], [0, 1]))

    def test_small_matroids(self):
        chance = random.Random(91)
        matroids = [(line,) for line in FOURS] + [(line,) for line in some_lines(92, 6)] + some_matroids(93, 40, 6, 6)
        matroids += [rich_matroid(6, chance) for _ in range(60)]
        few = []
        for matroid in matroids:
            ranks = ranks_of_lines(matroid)[-1]
            count = count_in(ranks)
            for _ in range(4):
                lengths = [chance.randint(0, min(3, count)) for _ in range(chance.randint(0, 5))]
                sets = [chance.sample(range(count), length) for length in lengths]
                sets += chance.sample(sets, min(len(sets), chance.randint(0, 1)))
                pairs, too_few = self.check(matroid, ranks, sets)
                self.assertEqual(len(pairs), most_representatives(ranks, sets))
                for many in range(len(sets) + 1):
                    for numbers in combinations(range(len(sets)), many):
                        self.assertLessEqual(len(pairs), self.value(ranks, sets, numbers))
                few.append((len(too_few) > 0, len(too_few) < len(sets)))
        for kind in ((True, True), (True, False), (False, True)):
            self.assertGreater(few.count(kind), 30)

    def test_14_lists_of_14_elements(self):
        chance = random.Random(94)
        for at in (0, 4, 9, 12, 15):
            matroid = (LONG_LINES[at],)
            ranks = ranks_of_lines(matroid)[-1]
            self.check(matroid, ranks, [chance.sample(range(14), chance.randint(1, 3)) for _ in range(14)])
            representatives(matroid, [chance.sample(range(14), 14) for _ in range(14)])
        full = [chance.sample(range(14), 14) for _ in range(14)]
        pairs, too_few = representatives((("uniform", 14, 14),), full)
        self.assertEqual((len(pairs), too_few), (14, []))
        union = (LONG_LINES[2], LONG_LINES[5], ("union", 0, 1), ("dual", 2))
        self.check(union, ranks_of_lines(union)[-1], [chance.sample(range(14), 2) for _ in range(14)])

    def test_kinds_of_values(self):
        found = representatives(FREE, [[0], [0]])
        self.assertEqual([type(part) for part in (found, *found, *found[0])], [tuple, list, list, tuple])

    def test_the_functions_are_defined_in_their_file(self):
        for name in ("representatives", "matching"):
            self.assertEqual(getattr(representatives_file, name).__module__, "bestsets.representatives")


class MatchingTest(unittest.TestCase):
    def check(self, line, members):
        """Checks point 35 for a set in mixed order; returns the answer."""
        before = list(members)
        pairs, in_cover, things = found = matching(line, members)
        self.assertEqual(members, before)
        self.assertEqual(found, matching_by_words(line, members), (line, members))
        self.assertEqual(pairs, sorted(pairs))
        self.assertTrue(all(e in members and thing in line[2][e] for e, thing in pairs))
        self.assertTrue(different([e for e, _ in pairs]) and different([thing for _, thing in pairs]))
        self.assertEqual(len(in_cover) + len(things), len(pairs))
        self.assertTrue(all(e in in_cover or thing in things for e in members for thing in line[2][e]))
        self.assertTrue(set(in_cover) <= set(members) and different(in_cover + [-1]))
        return found

    def test_the_example_of_the_interface(self):
        self.assertEqual(matching(("choices", 2, ((0,), (0,), (0, 1))), [0, 1, 2]), ([(0, 0), (2, 1)], [2], [0]))

    def test_matching(self):
        line = ("choices", 3, ((0, 1), (0,), (), (1,), (2,)))
        self.assertEqual(matching(line, [4, 1, 0]), ([(0, 1), (1, 0), (4, 2)], [0, 1, 4], []))
        self.assertEqual(matching(line, [3, 1, 0]), ([(0, 0), (3, 1)], [], [0, 1]))
        self.assertEqual(matching(line, [2]), ([], [], []))
        self.assertEqual(matching(line, []), ([], [], []))

    def test_things_that_only_other_elements_have(self):
        line = ("choices", 4, ((3,), (0, 3), (0,), (1, 2)))
        self.assertEqual(matching(line, [2]), ([(2, 0)], [2], []))
        self.assertEqual(matching(line, [2, 1, 0]), ([(0, 3), (1, 0)], [], [0, 3]))

    def test_no_things_and_no_elements(self):
        self.assertEqual(matching(("choices", 0, ()), []), ([], [], []))
        self.assertEqual(matching(("choices", 5, ()), []), ([], [], []))
        self.assertEqual(matching(("choices", 0, ((), (), ())), [2, 0]), ([], [], []))
        self.assertEqual(matching(("choices", 3, ((),)), [0]), ([], [], []))

    def test_every_set_of_small_lines(self):
        chance = random.Random(95)
        lines = [some_choices(count, chance) for count in range(6) for _ in range(3)]
        lines += [rich_choices(6, chance) for _ in range(6)]
        for line in lines:
            ranks = ranks_of_lines((line,))[-1]
            for members in all_sets(len(line[2])):
                mixed = orders_of(members, chance)[-1]
                pairs, _, _ = self.check(line, mixed)
                self.assertEqual(len(pairs), ranks[code_of(members)])

    def test_14_elements(self):
        chance = random.Random(96)
        for line in (LONG_LINES[8], LONG_LINES[9], LONG_LINES[10], LONG_LINES[11]):
            independent = tester_of(ranks_of_lines((line,))[-1])
            for many in (14, 10, 5):
                pairs, _, _ = self.check(line, chance.sample(range(14), many))
                self.assertTrue(independent([e for e, _ in pairs]))
        pairs, in_cover, things = matching(("choices", 14, (tuple(range(14)),) * 14), list(range(14)))
        self.assertEqual((len(pairs), in_cover, things), (14, list(range(14)), []))

    def test_kinds_of_values(self):
        found = matching(("choices", 2, ((0,), (0,), (0, 1))), [0, 1, 2])
        self.assertEqual([type(part) for part in (found, *found, *found[0])], [tuple] + [list] * 3 + [tuple] * 2)


if __name__ == "__main__":
    unittest.main()
