"""The interface: each name in its own file, with the arguments that the document writes."""

import importlib
import inspect
import unittest

FUNCTIONS = """
lines fault(matroid)
lines size(matroid)
kinds rank_of_kind(line, members)
made rank(matroid, members)
made line_rank(matroid, number, members)
made dual_of(matroid)
notation format_matroid(matroid)
notation parse_matroid(text)
sets is_independent(matroid, members)
sets closure(matroid, members)
sets base_of(matroid, members)
sets circuit_of(matroid, members)
sets bases(matroid)
sets exchange(matroid, one, other, element)
greedy best_set(matroid, weights)
greedy family_fault(count, sets)
common common(first, second)
common layers(first, second, members)
common row_of(first, second, members)
common moved(first, second, members)
parts divided(first, second, members)
parts fold_rank(matroid, count, members)
parts packing(matroid, count)
parts covering(matroid, count)
tight tight(first, second)
tight standing(first, second)
weighted heaviest(first, second, weights, count)
representatives representatives(matroid, sets)
representatives matching(line, members)
judges judge_common(first, second, members, shown)
judges judge_packing(matroid, sets)
judges judge_covering(matroid, sets)
judges judge_no_packing(matroid, count, members)
judges judge_no_covering(matroid, count, members)
judges judge_heaviest(first, second, weights, count, members, one, two)
"""

METHODS = """
__init__(self, first, second)
put(self, element)
take(self, element)
set_data(self, which, line, element, data)
set_bound(self, which, line, number, bound)
undo(self)
redo(self)
first(self)
second(self)
members(self)
kept(self)
shown(self)
lost(self)
rows(self)
most(self)
changes(self)
undone(self)
"""


class InterfaceTest(unittest.TestCase):
    def test_functions(self):
        for row in FUNCTIONS.strip().splitlines():
            file, written = row.split(" ", 1)
            name = written.split("(")[0]
            with self.subTest(row=row):
                function = getattr(importlib.import_module(f"bestsets.{file}"), name)
                self.assertTrue(inspect.isfunction(function))
                self.assertEqual((function.__module__, function.__name__), (f"bestsets.{file}", name))
                self.assertEqual(name + str(inspect.signature(function)), written)

    def test_the_class_of_benches(self):
        bench = importlib.import_module("bestsets.bench").Bench
        self.assertEqual((bench.__module__, bench.__name__), ("bestsets.bench", "Bench"))
        for written in METHODS.strip().splitlines():
            name = written.split("(")[0]
            with self.subTest(method=written):
                self.assertEqual(name + str(inspect.signature(vars(bench)[name])), written)


if __name__ == "__main__":
    unittest.main()
