"""The faults and sizes of matroids: points 2, 4, 5 and 6."""

import unittest
from itertools import chain, combinations, product

from definitions import can_all_exchange, count_of, do_cross, some_lines

from bestsets import lines
from bestsets.lines import fault, size

# All pairs of different classes: 60 and 61 bases of 12 elements.
SIXTY = tuple((a, b) for a, b in combinations(range(12), 2) if b > 3)
SIXTY_ONE = tuple(
    pair for pair in combinations(range(12), 2) if pair not in ((0, 1), (0, 2), (1, 2), (3, 4), (5, 6))
)

VALID_KINDS = (
    # Limits of graph.
    ("graph", 0, ()),
    ("graph", 1, ((0, 0),)),
    ("graph", 24, ()),
    ("graph", 24, ((23, 0), (0, 23), (23, 23))),
    ("graph", 2, ((0, 1),) * 14),
    # Limits of vectors.
    ("vectors", 2, 0, ()),
    ("vectors", 2, 1, ((0,), (1,))),
    ("vectors", 3, 1, ((0,), (2,))),
    ("vectors", 5, 1, ((0,), (4,))),
    ("vectors", 7, 1, ((0,), (6,))),
    ("vectors", 2, 0, ((),) * 14),
    ("vectors", 7, 8, ((6,) * 8,) * 14),
    # Limits of choices.
    ("choices", 0, ()),
    ("choices", 0, ((),) * 14),
    ("choices", 14, ((), (0,), (13,), (0, 13), tuple(range(14)))),
    # Limits of bounds.
    ("bounds", 0, ()),
    ("bounds", 0, (((), 0), ((), 14))),
    ("bounds", 14, (((0, 13), 0), ((0, 13), 14))),
    ("bounds", 14, (((), 1),) * 14),
    ("bounds", 14, tuple((tuple(range(number)), 14) for number in range(1, 15))),
    # Limits of uniform.
    ("uniform", 0, 0),
    ("uniform", 14, 0),
    ("uniform", 14, 14),
    # Limits of bases.
    ("bases", 0, ((),)),
    ("bases", 12, ((),)),
    ("bases", 12, (tuple(range(12)),)),
    ("bases", 12, SIXTY),
    ("bases", 12, tuple((a, b, c) for a in (0, 1, 2) for b in (3, 4, 5, 6) for c in (7, 8, 9, 10, 11))),
)

WRONG_KINDS = (
    (("", 1, 2), "name"),
    (("Graph", 1, ()), "name"),
    (("lines",), "name"),
    (("graph",), "form"),
    (("graph", 2), "form"),
    (("graph", 2, (), ()), "form"),
    (("graph", -1, ()), "vertices"),
    (("graph", 25, ()), "vertices"),
    (("graph", 2, ((0, 1),) * 15), "arcs"),
    (("graph", 3, ((0, 1), (-1, 0))), "arcs"),
    (("graph", 3, ((0, 1), (0, -1))), "arcs"),
    (("graph", 3, ((0, 1), (3, 0))), "arcs"),
    (("graph", 3, ((0, 1), (0, 3))), "arcs"),
    (("graph", 0, ((0, 0),)), "arcs"),
    (("graph", 24, ((24, 0),)), "arcs"),
    (("vectors",), "form"),
    (("vectors", 2, 0), "form"),
    (("vectors", 2, 0, (), 0), "form"),
    (("vectors", -2, 0, ()), "prime"),
    (("vectors", 0, 0, ()), "prime"),
    (("vectors", 1, 0, ()), "prime"),
    (("vectors", 4, 0, ()), "prime"),
    (("vectors", 6, 0, ()), "prime"),
    (("vectors", 8, 0, ()), "prime"),
    (("vectors", 11, 0, ()), "prime"),
    (("vectors", 2, -1, ()), "width"),
    (("vectors", 2, 9, ()), "width"),
    (("vectors", 2, 0, ((),) * 15), "vectors"),
    (("vectors", 2, 2, ((0, 1), (0,))), "vectors"),
    (("vectors", 2, 2, ((0, 1), (0, 1, 0))), "vectors"),
    (("vectors", 2, 0, ((0,),)), "vectors"),
    (("vectors", 2, 1, ((),)), "vectors"),
    (("vectors", 2, 2, ((0, 1), (-1, 0))), "vectors"),
    (("vectors", 2, 2, ((0, 1), (0, 2))), "vectors"),
    (("vectors", 3, 2, ((0, 1), (0, 3))), "vectors"),
    (("vectors", 5, 2, ((0, 1), (5, 0))), "vectors"),
    (("vectors", 7, 2, ((0, 1), (7, 0))), "vectors"),
    (("choices",), "form"),
    (("choices", 2), "form"),
    (("choices", 2, (), ()), "form"),
    (("choices", -1, ()), "things"),
    (("choices", 15, ()), "things"),
    (("choices", 2, ((),) * 15), "choices"),
    (("choices", 2, ((0, 1), (2,))), "choices"),
    (("choices", 2, ((0, 1), (-1,))), "choices"),
    (("choices", 0, ((0,),)), "choices"),
    (("choices", 14, ((14,),)), "choices"),
    (("choices", 3, ((0,), (1, 1))), "choices"),
    (("choices", 3, ((0,), (2, 1))), "choices"),
    (("choices", 4, ((0, 1, 3, 2),)), "choices"),
    (("bounds",), "form"),
    (("bounds", 2), "form"),
    (("bounds", 2, (), ()), "form"),
    (("bounds", -1, ()), "size"),
    (("bounds", 15, ()), "size"),
    (("bounds", 2, (((), 1),) * 15), "bounds"),
    (("bounds", 2, (((0,), 1), ((2,), 1))), "bounds"),
    (("bounds", 2, (((0,), 1), ((-1,), 1))), "bounds"),
    (("bounds", 0, (((0,), 1),)), "bounds"),
    (("bounds", 14, (((14,), 1),)), "bounds"),
    (("bounds", 2, (((1, 1), 1),)), "bounds"),
    (("bounds", 2, (((1, 0), 1),)), "bounds"),
    (("bounds", 2, (((0, 1), 1), ((0,), -1))), "bounds"),
    (("bounds", 2, (((0, 1), 1), ((0,), 15))), "bounds"),
    (("bounds", 3, (((0, 1), 1), ((1, 2), 1))), "crossing"),
    (("bounds", 5, (((0, 1, 2, 3, 4), 1), ((4,), 1), ((0, 1, 2), 1), ((1, 2, 3), 1))), "crossing"),
    (("uniform",), "form"),
    (("uniform", 2), "form"),
    (("uniform", 2, 1, 0), "form"),
    (("uniform", -1, -1), "size"),
    (("uniform", 15, 0), "size"),
    (("uniform", 15, 15), "size"),
    (("uniform", 3, -1), "rank"),
    (("uniform", 3, 4), "rank"),
    (("uniform", 0, 1), "rank"),
    (("uniform", 14, 15), "rank"),
    (("bases",), "form"),
    (("bases", 2), "form"),
    (("bases", 2, ((),), ()), "form"),
    (("bases", -1, ((),)), "size"),
    (("bases", 13, ((),)), "size"),
    (("bases", 2, ()), "bases"),
    (("bases", 0, ()), "bases"),
    (("bases", 12, SIXTY_ONE), "bases"),
    (("bases", 2, ((0,), (2,))), "bases"),
    (("bases", 2, ((0,), (-1,))), "bases"),
    (("bases", 0, ((0,),)), "bases"),
    (("bases", 12, ((12,),)), "bases"),
    (("bases", 3, ((0, 1), (1, 1))), "bases"),
    (("bases", 3, ((0, 1), (2, 1))), "bases"),
    (("bases", 3, ((0, 1), (2,))), "bases"),
    (("bases", 3, ((), (2,))), "bases"),
    (("bases", 3, ((0, 1), (1, 2), (0, 1))), "bases"),
    (("bases", 2, ((), ())), "bases"),
    (("bases", 4, ((0, 1), (2, 3))), "exchange"),
    (("bases", 4, ((0, 1), (0, 2), (1, 3))), "exchange"),
)

# Line 0 has 5 elements, line 1 has 3 and line 2 has none; the wrong line has number 3.
EARLIER = (("uniform", 5, 2), ("graph", 2, ((0, 1), (0, 1), (1, 1))), ("uniform", 0, 0))

VALID_MADE = (
    (("dual", 0), 5),
    (("dual", 2), 0),
    (("delete", 0, 0), 4),
    (("delete", 0, 4), 4),
    (("delete", 1, 2), 2),
    (("contract", 0, 0), 4),
    (("contract", 0, 4), 4),
    (("contract", 1, 2), 2),
    (("sum", 0, 1), 8),
    (("sum", 1, 0), 8),
    (("sum", 0, 0), 10),
    (("sum", 2, 2), 0),
    (("sum", 2, 1), 3),
    (("truncate", 0, 0), 5),
    (("truncate", 0, 14), 5),
    (("truncate", 2, 1), 0),
    (("union", 0, 0), 5),
    (("union", 1, 1), 3),
    (("union", 2, 2), 0),
)

WRONG_MADE = (
    (("dual",), "form"),
    (("dual", 0, 0), "form"),
    (("delete", 0), "form"),
    (("delete", 0, 0, 0), "form"),
    (("contract", 0), "form"),
    (("contract", 0, 0, 0), "form"),
    (("sum", 0), "form"),
    (("sum", 0, 0, 0), "form"),
    (("truncate", 0), "form"),
    (("truncate", 0, 0, 0), "form"),
    (("union", 0), "form"),
    (("union", 0, 0, 0), "form"),
    (("delete", 0, 5), "element"),
    (("delete", 0, -1), "element"),
    (("delete", 1, 3), "element"),
    (("delete", 2, 0), "element"),
    (("contract", 0, 5), "element"),
    (("contract", 0, -1), "element"),
    (("contract", 1, 3), "element"),
    (("contract", 2, 0), "element"),
    (("truncate", 0, -1), "bound"),
    (("truncate", 0, 15), "bound"),
    (("union", 0, 1), "size"),
    (("union", 1, 0), "size"),
    (("union", 0, 2), "size"),
)

# Each line has a later fault of its kind, too.
FIRST_OF_TWO = (
    (("grph", 25), "name"),
    (("graph", 25), "form"),
    (("graph", 25, ((25, 0),)), "vertices"),
    (("vectors", 4, 9, ((4,),) * 15), "prime"),
    (("vectors", 2, 9, ((4,),)), "width"),
    (("choices", 15, ((15,),)), "things"),
    (("bounds", 15, (((15,), 1),)), "size"),
    (("bounds", 15, (((0, 1), 1), ((1, 2), 1))), "size"),
    (("bounds", 3, (((0, 1), 1), ((1, 2), 15))), "bounds"),
    (("bounds", 3, (((0, 1), 1), ((1, 2), 1)) * 8), "bounds"),
    (("uniform", 15, 16), "size"),
    (("uniform", -1, 0), "size"),
    (("bases", 13, ()), "size"),
    (("bases", 13, ((0, 1), (2, 3))), "size"),
    (("bases", 4, ((0, 1), (2, 3), (2, 3))), "bases"),
    (("delete", 3, 5), "line"),
    (("delete", -1, -1), "line"),
    (("contract", 3, 5), "line"),
    (("contract", -1, -1), "line"),
    (("truncate", 3, 15), "line"),
    (("truncate", -1, -1), "line"),
    (("union", 3, 0), "line"),
    (("union", 0), "form"),
    (("delete", 3), "form"),
)


def with_other_members(line):
    """The line with one member less and with one member more."""
    return (line[:-1], line + (0,))


class FaultTest(unittest.TestCase):
    def test_the_example_of_the_interface(self):
        self.assertEqual(fault((("uniform", 3, 2), ("dual", 0), ("delete", 1, 3))), (2, "element"))

    def test_the_fault_is_a_tuple(self):
        self.assertIs(type(fault(())), tuple)
        self.assertIs(type(fault((("uniform", 0, 1),))), tuple)

    def test_number_of_lines(self):
        line = ("uniform", 1, 1)
        self.assertEqual(fault(()), (0, "lines"))
        self.assertIsNone(fault((line,)))
        self.assertIsNone(fault((line,) * 20))
        self.assertEqual(fault((line,) * 21), (20, "lines"))
        self.assertEqual(fault((line,) * 25), (20, "lines"))

    def test_too_many_lines_come_before_wrong_lines(self):
        wrong = ("uniform", 1, 2)
        self.assertEqual(fault((wrong,) * 20), (0, "rank"))
        self.assertEqual(fault((wrong,) * 21), (20, "lines"))

    def test_valid_lines_of_the_kinds(self):
        for line in VALID_KINDS:
            with self.subTest(line=line):
                self.assertIsNone(fault((line,)))
                self.assertIsNone(fault(EARLIER + (line,)))

    def test_wrong_lines_of_the_kinds(self):
        for line, word in WRONG_KINDS:
            with self.subTest(line=line):
                self.assertEqual(fault((line,)), (0, word))
                self.assertEqual(fault(EARLIER + (line,) + EARLIER), (3, word))

    def test_valid_made_lines(self):
        for line, _ in VALID_MADE:
            with self.subTest(line=line):
                self.assertIsNone(fault(EARLIER + (line,)))

    def test_wrong_made_lines(self):
        for line, word in WRONG_MADE:
            with self.subTest(line=line):
                self.assertEqual(fault(EARLIER + (line,) + EARLIER), (3, word))

    def test_numbers_that_are_not_those_of_earlier_lines(self):
        for number in (-4, -1, 3, 4, 20):
            for line in (("dual", number), ("delete", number, 0), ("contract", number, 0), ("truncate", number, 0)):
                with self.subTest(line=line):
                    self.assertEqual(fault(EARLIER + (line, ("dual", 0))), (3, "line"))
            for name, pair in product(("sum", "union"), ((0, number), (number, 0), (number, number))):
                with self.subTest(name=name, pair=pair):
                    self.assertEqual(fault(EARLIER + ((name,) + pair, ("dual", 0))), (3, "line"))

    def test_a_first_line_has_no_earlier_line(self):
        for line in (("dual", 0), ("delete", 0, 0), ("sum", 0, 0), ("truncate", 0, 0), ("union", 0, 0)):
            with self.subTest(line=line):
                self.assertEqual(fault((line,)), (0, "line"))
        self.assertEqual(fault((("contract", 1, 0), ("uniform", 1, 1))), (0, "line"))

    def test_sums_of_14_and_of_15_elements(self):
        seven, eight = ("uniform", 7, 3), ("uniform", 8, 3)
        self.assertIsNone(fault((seven, eight, ("sum", 0, 0))))
        self.assertEqual(fault((seven, eight, ("sum", 0, 1))), (2, "size"))
        self.assertEqual(fault((seven, eight, ("sum", 1, 0))), (2, "size"))
        self.assertIsNone(fault((("uniform", 14, 3), ("uniform", 0, 0), ("sum", 0, 1))))
        self.assertEqual(fault((("uniform", 14, 3), ("uniform", 1, 0), ("sum", 0, 1))), (2, "size"))

    def test_sizes_of_made_lines_count(self):
        chain_of_lines = (("uniform", 2, 1), ("delete", 0, 1), ("contract", 1, 0), ("dual", 2))
        self.assertIsNone(fault(chain_of_lines))
        self.assertEqual(fault(chain_of_lines + (("delete", 1, 1),)), (4, "element"))
        self.assertEqual(fault(chain_of_lines + (("contract", 3, 0),)), (4, "element"))
        self.assertEqual(fault(chain_of_lines + (("union", 0, 1),)), (4, "size"))
        self.assertEqual(fault((("uniform", 8, 1), ("delete", 0, 0), ("sum", 0, 1))), (2, "size"))
        self.assertIsNone(fault((("uniform", 8, 1), ("delete", 0, 0), ("sum", 1, 1), ("truncate", 2, 3))))
        self.assertEqual(fault((("uniform", 5, 1), ("sum", 0, 0), ("sum", 0, 1))), (2, "size"))
        self.assertIsNone(fault((("uniform", 5, 1), ("sum", 0, 0), ("delete", 1, 9))))
        self.assertEqual(fault((("uniform", 5, 1), ("truncate", 0, 2), ("delete", 1, 5))), (2, "element"))
        self.assertEqual(fault((("uniform", 5, 1), ("union", 0, 0), ("delete", 1, 5))), (2, "element"))

    def test_the_first_word_of_a_line_counts(self):
        for line, word in FIRST_OF_TWO:
            with self.subTest(line=line):
                self.assertEqual(fault(EARLIER + (line,)), (3, word))

    def test_every_name_asks_for_its_number_of_members(self):
        for line in VALID_KINDS + tuple(line for line, _ in VALID_MADE):
            self.assertIsNone(fault(EARLIER + (line,)))
            for other in with_other_members(line):
                with self.subTest(line=other):
                    self.assertEqual(fault(EARLIER + (other,)), (3, "form"))

    def test_the_first_of_two_wrong_lines_counts(self):
        for (first, word), (second, _) in zip(WRONG_KINDS, WRONG_MADE + WRONG_KINDS[::-1]):
            with self.subTest(first=first, second=second):
                self.assertEqual(fault(EARLIER + (first, second)), (3, word))
                self.assertEqual(fault(EARLIER + (("dual", 0), first, second)), (4, word))
        self.assertEqual(fault((("uniform", 1, 2), ("dual", 0), ("dual", 5))), (0, "rank"))
        self.assertEqual(fault((("uniform", 1, 1), ("dual", 5), ("uniform", 1, 2))), (1, "line"))

    def test_every_two_sets_with_bounds(self):
        sets = list(chain.from_iterable(combinations(range(4), length) for length in range(5)))
        for one, other in product(sets, sets):
            wanted = (0, "crossing") if do_cross(one, other) else None
            self.assertEqual(fault((("bounds", 4, ((one, 2), (other, 1))),)), wanted, (one, other))

    def test_every_family_of_bases(self):
        for count, length in ((3, 1), (4, 1), (3, 2), (4, 2), (5, 2), (4, 3), (5, 4)):
            sets = list(combinations(range(count), length))
            for code in range(1, 2 ** len(sets)):
                bases = tuple(base for at, base in enumerate(sets) if code >> at & 1)
                wanted = None if can_all_exchange(bases) else (0, "exchange")
                self.assertEqual(fault((("bases", count, bases),)), wanted, bases)

    def test_bases_with_one_base_missing(self):
        self.assertTrue(can_all_exchange(SIXTY) and can_all_exchange(SIXTY_ONE))
        self.assertEqual((len(SIXTY), len(SIXTY_ONE)), (60, 61))
        for at in range(60):
            bases = SIXTY[:at] + SIXTY[at + 1:]
            wanted = None if can_all_exchange(bases) else (0, "exchange")
            self.assertEqual(fault((("bases", 12, bases[::-1]),)), wanted, SIXTY[at])


class SizeTest(unittest.TestCase):
    def test_sizes_of_the_kinds(self):
        wanted = (
            (("graph", 5, ((0, 1), (1, 2), (2, 2))), 3),
            (("graph", 5, ()), 0),
            (("vectors", 3, 2, ((0, 1), (1, 1), (0, 0), (2, 2))), 4),
            (("vectors", 3, 2, ()), 0),
            (("choices", 6, ((0, 1), ())), 2),
            (("choices", 6, ()), 0),
            (("bounds", 7, (((0, 1), 1), ((5,), 1))), 7),
            (("bounds", 0, ()), 0),
            (("uniform", 9, 4), 9),
            (("uniform", 0, 0), 0),
            (("bases", 5, ((0, 1), (1, 2))), 5),
            (("bases", 0, ((),)), 0),
        )
        for line, count in wanted:
            with self.subTest(line=line):
                self.assertEqual(size((line,)), count)
                self.assertEqual(size(EARLIER + (line,)), count)

    def test_sizes_at_the_limits(self):
        for line in VALID_KINDS:
            with self.subTest(line=line):
                self.assertEqual(size((line,)), count_of(line))

    def test_sizes_of_made_lines(self):
        for line, count in VALID_MADE:
            with self.subTest(line=line):
                self.assertEqual(size(EARLIER + (line,)), count)

    def test_size_of_lines_made_of_made_lines(self):
        matroid = EARLIER + (
            ("sum", 0, 1), ("delete", 3, 7), ("contract", 4, 0), ("dual", 5), ("truncate", 6, 2), ("union", 6, 7),
            ("sum", 8, 8), ("delete", 9, 11),
        )
        self.assertIsNone(fault(matroid))
        sizes = [size(matroid[:count]) for count in range(1, len(matroid) + 1)]
        self.assertEqual(sizes, [5, 3, 0, 8, 7, 6, 6, 6, 6, 12, 11])

    def test_size_of_20_lines(self):
        matroid = (("uniform", 14, 3),) + tuple(("delete", number, 0) for number in range(14))
        matroid = matroid + (("sum", 14, 5),) + tuple(("dual", number) for number in range(15, 19))
        self.assertEqual(len(matroid), 20)
        self.assertIsNone(fault(matroid))
        self.assertEqual(size(matroid), 9)

    def test_sizes_of_many_lines(self):
        for line in some_lines(5, 20):
            self.assertEqual(size((line,)), count_of(line), line)


class InterfaceTest(unittest.TestCase):
    def test_the_functions_are_defined_in_their_file(self):
        self.assertEqual(lines.fault.__module__, "bestsets.lines")
        self.assertEqual(lines.size.__module__, "bestsets.lines")


if __name__ == "__main__":
    unittest.main()
