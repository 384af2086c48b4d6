"""Tight sets, and elements of largest common sets: points 28 and 29."""

import unittest

from definitions import code_of, members_of, ranks_of_lines
from samples import FOURS, LONG_LINES
from two import count_in, largest_sets, moved_by_words, rich_pairs, some_pairs, tester_of

from bestsets import tight as tight_file
from bestsets.common import common, moved
from bestsets.errors import DifferentSizes
from bestsets.tight import standing, tight

EMPTY = (("uniform", 0, 0),)
FREE = (("uniform", 3, 3),)
LOOPS = (("uniform", 3, 0),)
PAIRS = (("bounds", 4, (((0, 1), 1), ((2, 3), 1))),)
CROSSED = (("bounds", 4, (((0, 2), 1), ((3,), 0))),)


def tight_codes(ranks, others):
    """The codes of all tight sets."""
    whole = len(ranks) - 1
    sums = [ranks[whole - code] + other for code, other in enumerate(others)]
    most = max(len(members) for members in largest_sets(count_in(ranks), tester_of(ranks), tester_of(others)))
    return [code for code, value in enumerate(sums) if value == most]


def pairs():
    """Pairs of small matroids of every kind and of made lines, with the ranks of all their sets."""
    fours = [((line,), ranks_of_lines((line,))[-1]) for line in FOURS]
    return [(a, b) for a in fours for b in fours] + some_pairs(71, 8) + rich_pairs(72, 30, 6) + rich_pairs(73, 8, 7)


class TightTest(unittest.TestCase):
    def test_tight(self):
        self.assertEqual(tight(FREE, FREE), (3, [], [0, 1, 2]))
        self.assertEqual(tight(FREE, LOOPS), (0, [0, 1, 2], [0, 1, 2]))
        self.assertEqual(tight(LOOPS, FREE), (0, [], []))
        self.assertEqual(tight(LOOPS, LOOPS), (0, [], [0, 1, 2]))
        self.assertEqual(tight(PAIRS, CROSSED), (2, [], [0, 1, 2, 3]))
        self.assertEqual(tight((("bounds", 3, (((0, 1), 1),)),), (("bounds", 3, (((2,), 0),)),)), (1, [2], [2]))

    def test_least_and_greatest_tight_set_of_small_matroids(self):
        different = 0
        for (first, ranks), (second, others) in pairs():
            codes = tight_codes(ranks, others)
            number, least, greatest = tight(first, second)
            members, shown = common(first, second)
            self.assertEqual((number, least), (len(members), shown))
            self.assertIn(code_of(least), codes, (first, second))
            self.assertIn(code_of(greatest), codes, (first, second))
            for code in codes:
                self.assertEqual(code & code_of(least), code_of(least), (first, second))
                self.assertEqual(code | code_of(greatest), code_of(greatest), (first, second))
            self.assertEqual((sorted(least), sorted(greatest)), (least, greatest))
            different += len(codes) > 2
        self.assertGreater(different, 30)

    def test_the_shown_set_is_the_same_from_every_set(self):
        for (first, _), (second, _) in pairs()[::4]:
            _, least, _ = tight(first, second)
            for members in ([], [0], [2, 0, 1]):
                if len(members) <= len(common(first, first)[0]):
                    self.assertEqual(moved(first, second, members)[3], least)

    def test_14_elements(self):
        for first, second in large_pairs():
            ranks, others = ranks_of_lines(first)[-1], ranks_of_lines(second)[-1]
            whole = len(ranks) - 1
            sums = [ranks[whole - code] + other for code, other in enumerate(others)]
            most = min(sums)
            least, greatest = whole, 0
            for code, value in enumerate(sums):
                if value == most:
                    least, greatest = least & code, greatest | code
            wanted = (most, members_of(least), members_of(greatest))
            self.assertEqual(tight(first, second), wanted)

    def test_no_elements(self):
        self.assertEqual(tight(EMPTY, EMPTY), (0, [], []))

    def test_different_sizes(self):
        for first, second in ((FREE, EMPTY), (EMPTY, LOOPS), (PAIRS, FREE), (FREE, PAIRS)):
            self.assertRaises(DifferentSizes, tight, first, second)
            self.assertRaises(DifferentSizes, standing, first, second)
        made = PAIRS + (("delete", 0, 3),)
        self.assertEqual(tight(FREE, made), (2, [0, 1], [0, 1, 2]))
        self.assertEqual(standing(made, FREE), (2, [2], [0, 1, 2]))

    def test_lists_are_new(self):
        for call in (tight, standing):
            before = call(PAIRS, CROSSED)
            self.assertEqual([type(part) for part in before], [int, list, list])
            self.assertIs(type(before), tuple)
            call(PAIRS, CROSSED)[1].append(9)
            call(PAIRS, CROSSED)[2].append(9)
            self.assertEqual(call(PAIRS, CROSSED), before)

    def test_the_functions_are_defined_in_their_file(self):
        for name in ("tight", "standing"):
            self.assertEqual(getattr(tight_file, name).__module__, "bestsets.tight")


class StandingTest(unittest.TestCase):
    def test_standing(self):
        self.assertEqual(standing(FREE, FREE), (3, [0, 1, 2], [0, 1, 2]))
        self.assertEqual(standing(FREE, LOOPS), (0, [], []))
        self.assertEqual(standing((("uniform", 3, 2),), FREE), (2, [], [0, 1, 2]))
        # The largest common sets are those of 1 and 2, and no others: 3 is never allowed, 0 excludes 2.
        self.assertEqual(standing(PAIRS, CROSSED), (2, [1, 2], [1, 2]))
        self.assertEqual(standing(EMPTY, EMPTY), (0, [], []))

    def check(self, first, second, largest):
        """Checks the answer for two matroids, given all their largest common sets."""
        count = max([e for members in largest for e in members], default=-1) + 1
        in_all = [e for e in range(count) if all(e in members for members in largest)]
        in_some = [e for e in range(count) if any(e in members for members in largest)]
        self.assertEqual(standing(first, second), (len(largest[0]), in_all, in_some), (first, second))
        return len(in_all), len(in_some)

    def test_all_largest_common_sets_of_small_matroids(self):
        found = []
        for (first, ranks), (second, others) in pairs():
            largest = largest_sets(count_in(ranks), tester_of(ranks), tester_of(others))
            found.append(self.check(first, second, largest))
        self.assertGreater(len([1 for many, more in found if 0 < many < more]), 10)

    def test_14_elements(self):
        for first, second in large_pairs():
            ranks, others = ranks_of_lines(first)[-1], ranks_of_lines(second)[-1]
            one, other = tester_of(ranks), tester_of(others)
            most = len(moved_by_words(14, one, other, [])[2])
            codes = [code for code in range(len(ranks)) if ranks[code] == others[code] == most]
            self.check(first, second, [members_of(code) for code in codes if bin(code).count("1") == most])


def large_pairs():
    """Pairs of matroids of 14 elements."""
    graph, vectors, choices, bounds = ((LONG_LINES[at],) for at in (0, 4, 9, 12))
    union = (LONG_LINES[2], LONG_LINES[5], ("union", 0, 1), ("dual", 2))
    return [(graph, vectors), (bounds, graph), (choices, bounds), (union, choices), (choices, union)]


if __name__ == "__main__":
    unittest.main()
