"""Benches: points 41 to 47, and what the document promises of them as a whole."""

import random
import unittest

from definitions import MADE, count_of, made_count, ranks_of_lines, some_matroid
from samples import FOURS, LONG_LINES
from two import count_in, largest_sets, moved_by_words, rich_bounds, rich_choices, rich_graph, rich_vectors, tester_of

from bestsets import bench as bench_file
from bestsets.bench import Bench
from bestsets.errors import (
    AlreadyIn, AlreadyOut, DifferentSizes, InvalidMatroid, NoSuchBound, NoSuchLine, TooManyChanges, UnknownElement,
)
from bestsets.judges import judge_common
from bestsets.lines import fault

EMPTY = (("uniform", 0, 0),)
FREE = (("uniform", 3, 3),)
FIRST = (("bounds", 3, (((0, 1), 1),)),)
SECOND = (("bounds", 3, (((0, 2), 1),)),)
TRIANGLE = ("graph", 3, ((0, 1), (1, 2), (2, 0)))


def told(bench):
    """All that a bench tells."""
    return (
        bench.first(), bench.second(), bench.members(), bench.kept(), bench.shown(), bench.lost(), bench.rows(),
        bench.most(),
    )


def places_by_words(matroid, number, place):
    """How often a line stands in the line with the number place."""
    if place == number:
        return 1
    name, *rest = matroid[place]
    if name not in MADE:
        return 0
    earlier = rest if name in ("sum", "union") else rest[:1]
    return sum(places_by_words(matroid, number, other) for other in earlier)


def with_item(items, place, item):
    """A tuple with another item at a place."""
    return tuple(item if at == place else old for at, old in enumerate(items))


class Model:
    """What the document says of a bench, as plainly as possible."""

    def __init__(self, first, second):
        self.tables = {}
        count = count_in(self.table(first))
        self.past = []
        self.future = []
        self.now = self.moved([first, second], set(range(count)), [], count)

    def table(self, matroid):
        """The ranks of all sets of a matroid by their codes."""
        if matroid not in self.tables:
            self.tables[matroid] = ranks_of_lines(matroid)[-1]
        return self.tables[matroid]

    def tester(self, matroid, present):
        """The function that tells whether a set of elements that are in is independent."""
        independent = tester_of(self.table(matroid))
        return lambda members: set(members) <= present and independent(members)

    def moved(self, matroids, present, kept, bound):
        """What is told after the kept set is moved."""
        one, other = (self.tester(matroid, present) for matroid in matroids)
        count = count_in(self.table(matroids[0]))
        stay, rows, members, shown = moved_by_words(count, one, other, kept)
        return (*matroids, sorted(present), members, shown, len(kept) - len(stay), len(rows), bound)

    def largest(self):
        """All largest common sets of the elements that are in."""
        one, other = (self.tester(matroid, set(self.now[2])) for matroid in self.now[:2])
        return largest_sets(count_in(self.table(self.now[0])), one, other)

    def change(self, name, *args):
        """Makes a change; returns the class and the argument of the error that it raises, or None."""
        error = getattr(self, name + "_error")(*args)
        if error is None and len(self.past) == 100:
            error = (TooManyChanges,)
        if error is None:
            first, second, present, kept = self.now[:4]
            self.past.append(self.now)
            self.future = []
            matroids, present, bound = getattr(self, name)([first, second], set(present), *args)
            self.now = self.moved(matroids, present, kept, bound)
        return error

    def put_error(self, e):
        if not 0 <= e < count_in(self.table(self.now[0])):
            return (UnknownElement, e)
        return (AlreadyIn, e) if e in self.now[2] else None

    def take_error(self, e):
        if not 0 <= e < count_in(self.table(self.now[0])):
            return (UnknownElement, e)
        return None if e in self.now[2] else (AlreadyOut, e)

    def set_data_error(self, which, line, e, data):
        matroid = self.now[which - 1]
        if line not in range(len(matroid)) or matroid[line][0] not in ("graph", "vectors", "choices"):
            return (NoSuchLine, line)
        if e not in range(len(matroid[line][-1])):
            return (UnknownElement, e)
        found = fault(self.with_data(matroid, line, e, data))
        return None if found is None else (InvalidMatroid, found[0])

    def set_bound_error(self, which, line, number, bound):
        matroid = self.now[which - 1]
        if line not in range(len(matroid)) or matroid[line][0] not in ("bounds", "uniform"):
            return (NoSuchLine, line)
        if number not in range(1 if matroid[line][0] == "uniform" else len(matroid[line][2])):
            return (NoSuchBound, number)
        found = fault(self.with_bound(matroid, line, number, bound)[0])
        return None if found is None else (InvalidMatroid, found[0])

    def put(self, matroids, present, e):
        return matroids, present | {e}, 1

    def take(self, matroids, present, e):
        return matroids, present - {e}, 1

    def set_data(self, matroids, present, which, line, e, data):
        matroid = matroids[which - 1]
        matroids[which - 1] = self.with_data(matroid, line, e, data)
        return matroids, present, 2 * places_by_words(matroid, line, len(matroid) - 1)

    def set_bound(self, matroids, present, which, line, number, bound):
        matroid = matroids[which - 1]
        matroids[which - 1], old = self.with_bound(matroid, line, number, bound)
        return matroids, present, abs(old - bound) * places_by_words(matroid, line, len(matroid) - 1)

    def with_data(self, matroid, line, e, data):
        *start, items = matroid[line]
        return with_item(matroid, line, (*start, with_item(items, e, data)))

    def with_bound(self, matroid, line, number, bound):
        name, many, rest = matroid[line]
        if name == "uniform":
            return with_item(matroid, line, (name, many, bound)), rest
        inside, old = rest[number]
        return with_item(matroid, line, (name, many, with_item(rest, number, (inside, bound)))), old

    def undo(self):
        if not self.past:
            return False
        self.future.append(self.now)
        self.now = self.past.pop()
        return True

    def redo(self):
        if not self.future:
            return False
        self.past.append(self.now)
        self.now = self.future.pop()
        return True


def some_data(line, chance):
    """Other data for an element of a line, sometimes wrong."""
    if line[0] == "graph":
        return (chance.randint(0, line[1] - (chance.random() < 0.9)), chance.randint(0, line[1] - 1))
    if line[0] == "vectors":
        wrong = chance.random() < 0.1
        return tuple(chance.randrange(line[1] + (chance.random() < 0.03)) for _ in range(line[2] + wrong))
    things = [thing for thing in range(line[1]) if chance.random() < 0.4]
    return tuple(things[::-1] if chance.random() < 0.1 else things)


def some_change(model, chance):
    """A change of any kind, sometimes with wrong arguments; undo and redo, too."""
    count = count_in(model.table(model.now[0]))
    name = chance.choice(("put", "take", "set_data", "set_data", "set_bound", "set_bound", "undo", "redo"))
    if name in ("undo", "redo"):
        return (name,)
    if name in ("put", "take"):
        fitting = [e for e in range(count) if (e in model.now[2]) == (name == "take")]
        return (name, chance.choice(fitting) if fitting and chance.random() < 0.8 else chance.randint(-1, count))
    which = chance.randint(1, 2)
    matroid = model.now[which - 1]
    kinds = ("graph", "vectors", "choices") if name == "set_data" else ("bounds", "uniform")
    fitting = [at for at, line in enumerate(matroid) if line[0] in kinds]
    if not fitting or chance.random() < 0.1:
        return (name, which, chance.randint(-1, len(matroid)), 0, (0, 0) if name == "set_data" else 0)
    at = chance.choice(fitting)
    line = matroid[at]
    many = len(line[-1]) if line[0] != "uniform" else 1
    number = chance.randrange(many) if many and chance.random() < 0.95 else chance.choice((-1, many))
    if name == "set_data":
        return (name, which, at, number, some_data(line, chance))
    return (name, which, at, number, chance.randint(-1, 5) if chance.random() < 0.9 else chance.choice((14, 15)))


class BenchTest(unittest.TestCase):
    def check(self, bench, model, name, *args):
        """Makes a change or an undo on a bench and in a model, and compares what they tell."""
        if name in ("undo", "redo"):
            self.assertIs(getattr(bench, name)(), getattr(model, name)())
            error = None
        else:
            error = model.change(name, *args)
            if error is None:
                self.assertIsNone(getattr(bench, name)(*args))
            else:
                self.check_error(lambda: getattr(bench, name)(*args), *error)
        self.compare(bench, model)
        return error

    def check_error(self, call, kind, *fields):
        """Checks that a call raises an error of just this class with this field."""
        with self.assertRaises(kind) as caught:
            call()
        self.assertIs(type(caught.exception), kind)
        self.assertEqual(list(vars(caught.exception).values()), list(fields))

    def compare(self, bench, model):
        """Compares what a bench tells with the model, and checks the promises."""
        self.assertEqual(told(bench), model.now)
        self.assertEqual((bench.changes(), bench.undone()), (len(model.past), len(model.future)))
        self.assertIn(bench.kept(), model.largest())
        self.assertLessEqual(bench.lost(), bench.most())
        self.assertLessEqual(bench.rows(), bench.most())
        self.check_shown(bench, model)

    def check_shown(self, bench, model):
        """Checks that no common set of the elements that are in is larger, as the shown set shows it."""
        present, shown = set(bench.members()), set(bench.shown())
        self.assertLessEqual(shown, present)
        ranks, others = model.table(bench.first()), model.table(bench.second())
        outside = sum(2 ** e for e in present - shown)
        self.assertEqual(len(bench.kept()), ranks[outside] + others[sum(2 ** e for e in shown)])

    def run_changes(self, first, second, many, chance):
        """Makes many changes on a bench and in a model; returns the errors and the bench."""
        bench, model = Bench(first, second), Model(first, second)
        self.compare(bench, model)
        errors = []
        for _ in range(many):
            errors.append(self.check(bench, model, *some_change(model, chance)))
        return errors, bench

    def test_a_new_bench(self):
        bench = Bench(FIRST, SECOND)
        self.assertEqual(told(bench), (FIRST, SECOND, [0, 1, 2], [1, 2], [], 0, 2, 3))
        self.assertEqual((bench.changes(), bench.undone()), (0, 0))
        bench = Bench((("uniform", 3, 0),), FREE)
        self.assertEqual(told(bench)[2:], ([0, 1, 2], [], [], 0, 0, 3))
        bench = Bench(FREE, (("uniform", 3, 0),))
        self.assertEqual(told(bench)[2:], ([0, 1, 2], [], [0, 1, 2], 0, 0, 3))

    def test_no_elements(self):
        bench = Bench(EMPTY, (("graph", 0, ()),))
        self.assertEqual(told(bench)[2:], ([], [], [], 0, 0, 0))
        self.check_error(lambda: bench.put(0), UnknownElement, 0)
        self.check_error(lambda: bench.take(0), UnknownElement, 0)
        bench.set_bound(1, 0, 0, 0)
        self.assertEqual((told(bench)[2:], bench.changes()), (([], [], [], 0, 0, 0), 1))

    def test_errors_of_a_new_bench(self):
        two = (("uniform", 2, 1),)
        bad, worse = (TRIANGLE, ("dual", 2)), (("uniform", 3, 4),)
        self.check_error(lambda: Bench(bad, FREE), InvalidMatroid, 1)
        self.check_error(lambda: Bench(FREE, worse), InvalidMatroid, 0)
        self.check_error(lambda: Bench(bad, worse), InvalidMatroid, 1)
        self.check_error(lambda: Bench(worse, bad), InvalidMatroid, 0)
        self.check_error(lambda: Bench(two, bad), InvalidMatroid, 1)
        self.check_error(lambda: Bench(bad, two), InvalidMatroid, 1)
        self.check_error(lambda: Bench((), two), InvalidMatroid, 0)
        self.check_error(lambda: Bench(two, (("uniform", 1, 1),) * 21), InvalidMatroid, 20)
        self.check_error(lambda: Bench(two, FREE), DifferentSizes)
        self.check_error(lambda: Bench(FREE, EMPTY), DifferentSizes)

    def test_take_and_put(self):
        bench = Bench(FIRST, SECOND)
        bench.take(1)
        self.assertEqual(told(bench)[2:], ([0, 2], [2], [0, 2], 1, 0, 1))
        bench.take(2)
        self.assertEqual(told(bench)[2:], ([0], [0], [], 1, 1, 1))
        bench.put(1)
        self.assertEqual(told(bench)[2:], ([0, 1], [0], [], 0, 0, 1))
        bench.put(2)
        self.assertEqual(told(bench)[2:], ([0, 1, 2], [1, 2], [], 0, 1, 1))
        self.assertEqual((bench.changes(), bench.undone()), (4, 0))

    def test_the_last_element_goes_out(self):
        bench = Bench(FREE, FREE)
        for element in (1, 0, 2):
            bench.take(element)
        self.assertEqual(told(bench)[2:], ([], [], [], 1, 0, 1))

    def test_elements_that_are_out_are_not_shown(self):
        bench = Bench(FREE, (("uniform", 3, 1),))
        self.assertEqual((bench.kept(), bench.shown()), ([0], [0, 1, 2]))
        bench.take(1)
        self.assertEqual((bench.kept(), bench.shown()), ([0], [0, 2]))
        bench.take(0)
        self.assertEqual((bench.kept(), bench.shown()), ([2], []))

    def test_set_data(self):
        bench = Bench((TRIANGLE,), FREE)
        self.assertEqual((bench.kept(), bench.most()), ([0, 1], 3))
        bench.set_data(1, 0, 2, (2, 2))
        self.assertEqual(bench.first(), (("graph", 3, ((0, 1), (1, 2), (2, 2))),))
        self.assertEqual(told(bench)[3:], ([0, 1], [], 0, 0, 2))
        bench.set_data(1, 0, 0, (1, 2))
        self.assertEqual(told(bench)[3:], ([0], [], 1, 0, 2))
        bench.set_data(1, 0, 2, (0, 1))
        self.assertEqual(told(bench)[3:], ([0, 2], [], 0, 1, 2))
        self.assertEqual(bench.first(), (("graph", 3, ((1, 2), (1, 2), (0, 1))),))
        self.assertEqual(bench.second(), FREE)
        vectors = Bench(FREE, (("vectors", 3, 2, ((1, 0), (0, 1), (1, 1))),))
        vectors.set_data(2, 0, 1, (2, 0))
        self.assertEqual(vectors.second(), (("vectors", 3, 2, ((1, 0), (2, 0), (1, 1))),))
        self.assertEqual(told(vectors)[3:], ([0, 2], [0, 1], 1, 1, 2))
        choices = Bench((("choices", 2, ((0,), (0,), (1,))),), FREE)
        choices.set_data(1, 0, 1, (0, 1))
        self.assertEqual(choices.first(), (("choices", 2, ((0,), (0, 1), (1,))),))
        choices.set_data(1, 0, 2, ())
        self.assertEqual(told(choices)[3:], ([0, 1], [], 1, 1, 2))

    def test_set_bound(self):
        bench = Bench((("bounds", 3, (((0, 1, 2), 3), ((0, 1), 1))),), FREE)
        bench.set_bound(1, 0, 0, 0)
        self.assertEqual(bench.first(), (("bounds", 3, (((0, 1, 2), 0), ((0, 1), 1))),))
        self.assertEqual(told(bench)[3:], ([], [], 2, 0, 3))
        bench.set_bound(1, 0, 1, 14)
        self.assertEqual(told(bench)[3:], ([], [], 0, 0, 13))
        bench.set_bound(1, 0, 0, 2)
        self.assertEqual(told(bench)[3:], ([0, 1], [], 0, 2, 2))
        bench.set_bound(2, 0, 0, 1)
        self.assertEqual((bench.second(), told(bench)[3:]), ((("uniform", 3, 1),), ([0], [0, 1, 2], 1, 0, 2)))

    def test_a_change_that_sets_what_is_there(self):
        bench = Bench((TRIANGLE,), FREE)
        bench.set_data(1, 0, 1, (1, 2))
        self.assertEqual(told(bench), ((TRIANGLE,), FREE, [0, 1, 2], [0, 1], [], 0, 0, 2))
        bench.set_bound(2, 0, 0, 3)
        self.assertEqual(told(bench), ((TRIANGLE,), FREE, [0, 1, 2], [0, 1], [], 0, 0, 0))
        self.assertEqual((bench.changes(), bench.undone()), (2, 0))
        self.assertIs(bench.undo(), True)
        self.assertEqual((bench.changes(), bench.undone(), bench.most()), (1, 1, 2))

    def test_unknown_elements_and_elements_that_are_in_or_out(self):
        bench = Bench(FIRST, SECOND)
        for element in (-1, 3, 14):
            self.check_error(lambda: bench.put(element), UnknownElement, element)
            self.check_error(lambda: bench.take(element), UnknownElement, element)
        self.check_error(lambda: bench.put(2), AlreadyIn, 2)
        bench.take(0)
        self.check_error(lambda: bench.take(0), AlreadyOut, 0)
        self.assertEqual((bench.members(), bench.changes()), ([1, 2], 1))

    def test_lines_that_cannot_be_changed(self):
        lines = FOURS + (("dual", 0), ("union", 0, 1))
        bench = Bench(lines, (("uniform", 4, 2), ("truncate", 0, 1)))
        for line in (-1, 3, 4, 5, 6, 7, 8):
            self.check_error(lambda: bench.set_data(1, line, 0, (0, 1)), NoSuchLine, line)
        for line in (-1, 0, 1, 2, 5, 6, 7, 8):
            self.check_error(lambda: bench.set_bound(1, line, 0, 1), NoSuchLine, line)
        for line in (-1, 0, 1, 2):
            self.check_error(lambda: bench.set_data(2, line, 0, (0, 1)), NoSuchLine, line)
        for line in (-1, 1, 2):
            self.check_error(lambda: bench.set_bound(2, line, 0, 1), NoSuchLine, line)
        self.assertEqual(bench.changes(), 0)

    def test_elements_and_bounds_that_a_line_does_not_have(self):
        bench = Bench(FOURS + (("uniform", 4, 4),), (("uniform", 4, 2), ("bounds", 4, ())))
        for line in (0, 1, 2):
            for element in (-1, 4):
                self.check_error(lambda: bench.set_data(1, line, element, (0, 1)), UnknownElement, element)
        for number in (-1, 3):
            self.check_error(lambda: bench.set_bound(1, 3, number, 1), NoSuchBound, number)
        for number in (-1, 1):
            self.check_error(lambda: bench.set_bound(1, 4, number, 1), NoSuchBound, number)
        self.check_error(lambda: bench.set_bound(2, 1, 0, 1), NoSuchBound, 0)
        self.assertEqual(bench.changes(), 0)

    def test_an_element_of_a_line_that_is_not_one_of_the_matroid(self):
        matroid = (TRIANGLE, ("delete", 0, 0))
        bench = Bench(matroid, (("uniform", 2, 2),))
        bench.set_data(1, 0, 2, (1, 1))
        self.assertEqual(told(bench)[3:], ([0], [], 1, 0, 2))
        self.check_error(lambda: bench.take(2), UnknownElement, 2)
        self.check_error(lambda: bench.set_data(1, 0, 3, (1, 1)), UnknownElement, 3)

    def test_changes_that_are_not_valid(self):
        lines = (("uniform", 4, 1),) + FOURS
        bench = Bench(lines, lines)
        for which in (1, 2):
            for line, data in (
                (1, (0, 3)), (1, (-1, 0)), (1, (0,)), (1, (0, 1, 2)), (1, ()), (2, (1,)), (2, (1, 2, 0)), (2, (1, 3)),
                (2, (-1, 0)), (3, (3,)), (3, (-1,)), (3, (1, 0)), (3, (1, 1)),
            ):
                self.check_error(lambda: bench.set_data(which, line, 2, data), InvalidMatroid, line)
            for line, number, bound in ((4, 1, 15), (4, 1, -1), (5, 0, 5), (5, 0, -1), (0, 0, 5)):
                self.check_error(lambda: bench.set_bound(which, line, number, bound), InvalidMatroid, line)
        self.assertEqual((bench.first(), bench.second(), bench.changes()), (lines, lines, 0))

    def test_the_order_of_errors(self):
        bench = Bench((TRIANGLE, ("uniform", 3, 2), ("union", 0, 1)), FREE)
        bench.take(1)
        for _ in range(49):
            bench.take(2)
            bench.put(2)
        bench.set_bound(2, 0, 0, 2)
        self.assertEqual(bench.changes(), 100)
        before = told(bench)
        for call, *error in (
            (lambda: bench.put(3), UnknownElement, 3),
            (lambda: bench.take(-1), UnknownElement, -1),
            (lambda: bench.put(0), AlreadyIn, 0),
            (lambda: bench.take(1), AlreadyOut, 1),
            (lambda: bench.set_data(1, 1, 7, (9, 9)), NoSuchLine, 1),
            (lambda: bench.set_data(2, 5, 7, (9, 9)), NoSuchLine, 5),
            (lambda: bench.set_data(1, 0, 7, (9, 9)), UnknownElement, 7),
            (lambda: bench.set_data(1, 0, 0, (9, 9)), InvalidMatroid, 0),
            (lambda: bench.set_bound(1, 0, 4, 99), NoSuchLine, 0),
            (lambda: bench.set_bound(1, 1, 4, 99), NoSuchBound, 4),
            (lambda: bench.set_bound(1, 1, 0, 99), InvalidMatroid, 1),
            (lambda: bench.put(1), TooManyChanges),
            (lambda: bench.take(0), TooManyChanges),
            (lambda: bench.set_data(1, 0, 0, (1, 1)), TooManyChanges),
            (lambda: bench.set_bound(2, 0, 0, 2), TooManyChanges),
        ):
            self.check_error(call, *error)
            self.assertEqual((told(bench), bench.changes(), bench.undone()), (before, 100, 0))
        self.assertIs(bench.undo(), True)
        bench.put(1)
        self.assertEqual((bench.members(), bench.changes()), ([0, 1, 2], 100))

    def test_undo_and_redo_to_the_beginning_and_back(self):
        bench = Bench(FIRST, SECOND)
        seen = [told(bench)]
        for call in (
            lambda: bench.take(1), lambda: bench.set_bound(1, 0, 0, 2), lambda: bench.put(1),
            lambda: bench.set_bound(2, 0, 0, 0),
        ):
            call()
            seen.append(told(bench))
        self.assertEqual(len(set(map(str, seen))), 5)
        for _ in range(2):
            for number in (3, 2, 1, 0):
                self.assertIs(bench.undo(), True)
                self.assertEqual((told(bench), bench.changes(), bench.undone()), (seen[number], number, 4 - number))
            self.assertIs(bench.undo(), False)
            self.assertEqual((told(bench), bench.changes(), bench.undone()), (seen[0], 0, 4))
            for number in (1, 2, 3, 4):
                self.assertIs(bench.redo(), True)
                self.assertEqual((told(bench), bench.changes(), bench.undone()), (seen[number], number, 4 - number))
            self.assertIs(bench.redo(), False)
            self.assertEqual((told(bench), bench.changes(), bench.undone()), (seen[4], 4, 0))

    def test_a_new_change_behind_an_undo(self):
        bench = Bench(FIRST, SECOND)
        bench.take(0)
        bench.set_bound(1, 0, 0, 0)
        bench.undo()
        # A change that raises discards nothing.
        self.check_error(lambda: bench.take(0), AlreadyOut, 0)
        self.check_error(lambda: bench.set_bound(1, 0, 1, 0), NoSuchBound, 1)
        self.assertEqual((bench.changes(), bench.undone()), (1, 1))
        bench.take(2)
        self.assertEqual((bench.changes(), bench.undone()), (2, 0))
        self.assertIs(bench.redo(), False)
        self.assertEqual(told(bench), (FIRST, SECOND, [1], [1], [], 1, 0, 1))

    def test_the_matroid_that_an_undo_brings_back_is_the_one_that_counts(self):
        bench = Bench((("uniform", 3, 1),), FREE)
        bench.set_bound(1, 0, 0, 3)
        bench.undo()
        bench.take(0)
        self.assertEqual(told(bench)[2:], ([1, 2], [1], [], 1, 1, 1))
        bench.undo()
        bench.undo()
        bench.set_bound(1, 0, 0, 2)
        bench.undo()
        bench.take(2)
        self.assertEqual(told(bench)[2:], ([0, 1], [0], [], 0, 0, 1))

    def test_100_changes_and_one_more(self):
        bench, model = Bench(FIRST, SECOND), Model(FIRST, SECOND)
        for number in range(50):
            self.assertIsNone(self.check(bench, model, "take", number % 3))
            self.assertIsNone(self.check(bench, model, "put", number % 3))
        self.assertEqual(self.check(bench, model, "take", 0), (TooManyChanges,))
        for _ in range(101):
            self.check(bench, model, "undo")
        self.assertEqual((bench.changes(), bench.undone()), (0, 100))
        for _ in range(101):
            self.check(bench, model, "redo")
        self.check(bench, model, "undo")
        self.assertIsNone(self.check(bench, model, "set_bound", 1, 0, 0, 2))
        self.assertEqual(self.check(bench, model, "set_bound", 1, 0, 0, 2), (TooManyChanges,))

    def test_places(self):
        doubled = (TRIANGLE, ("union", 0, 0), ("dual", 1), ("union", 2, 1), ("truncate", 3, 2))
        bench = Bench(doubled, doubled[:2])
        for which, most in ((1, 8), (2, 4)):
            bench.set_data(which, 0, 0, (1, 1))
            self.assertEqual(bench.most(), most)
        single = (("uniform", 2, 1), ("uniform", 3, 2), ("delete", 1, 0), ("sum", 0, 0), ("sum", 3, 2))
        bench = Bench(single + (("contract", 4, 5), ("delete", 5, 4)), (("uniform", 4, 4),))
        for line, bound, most in ((0, 0, 2), (0, 2, 4), (1, 0, 2), (1, 3, 3)):
            bench.set_bound(1, line, 0, bound)
            self.assertEqual(bench.most(), most)

    def test_a_line_that_the_last_line_does_not_reach(self):
        matroid = (TRIANGLE, ("uniform", 3, 1), ("dual", 0), ("union", 0, 1), ("truncate", 1, 1))
        bench, model = Bench(matroid, FREE), Model(matroid, FREE)
        self.check(bench, model, "set_data", 1, 0, 0, (2, 2))
        self.assertEqual((bench.lost(), bench.rows(), bench.most()), (0, 0, 0))
        self.assertEqual(bench.first()[0], ("graph", 3, ((2, 2), (1, 2), (2, 0))))
        bench = Bench((TRIANGLE, ("uniform", 3, 1)), FREE)
        bench.set_data(1, 0, 0, (2, 2))
        self.assertEqual((bench.lost(), bench.rows(), bench.most()), (0, 0, 0))

    def test_a_line_that_stands_very_often(self):
        matroid = (("uniform", 1, 0),) + tuple(("union", at, at) for at in range(19))
        bench = Bench((("uniform", 1, 1),), matroid)
        self.assertEqual((bench.kept(), bench.shown()), ([], [0]))
        bench.set_bound(2, 0, 0, 1)
        self.assertEqual(told(bench)[2:], ([0], [0], [], 0, 1, 2 ** 19))

    def test_many_changes_of_small_matroids(self):
        chance = random.Random(121)
        errors = []
        for _ in range(150):
            first, second = equal_matroids(chance, 7, 5)
            found, _ = self.run_changes(first, second, 40, chance)
            errors += [error and error[0] for error in found]
        for kind in (None, UnknownElement, AlreadyIn, AlreadyOut, NoSuchLine, NoSuchBound, InvalidMatroid):
            self.assertGreater(errors.count(kind), 10, kind)

    def test_many_changes_of_matroids_with_long_rows(self):
        chance = random.Random(122)
        kinds = (rich_bounds, rich_graph, rich_vectors, rich_choices)
        for _ in range(100):
            first, second = ((chance.choice(kinds)(7, chance), ("truncate", 0, 5)) for _ in range(2))
            doubled = (second[0], ("uniform", 7, 1), ("union", 0, 0), ("truncate", 2, 4), ("dual", 3))
            pair = [first, chance.choice((second, second[:1], doubled))]
            chance.shuffle(pair)
            self.run_changes(*pair, 40, chance)

    def test_20_lines(self):
        chance = random.Random(123)
        for _ in range(12):
            first, second = equal_matroids(chance, 20, 5)
            self.assertEqual((len(first), len(second)), (20, 20))
            self.run_changes(first, second, 25, chance)

    def test_14_elements(self):
        chance = random.Random(124)
        union = (LONG_LINES[0], LONG_LINES[16], ("union", 0, 1), ("dual", 2))
        for first, second in (
            ((LONG_LINES[0],), (LONG_LINES[12],)), ((LONG_LINES[9],), (LONG_LINES[3], ("truncate", 0, 6))),
            ((LONG_LINES[15],), union),
        ):
            bench, last = Bench(first, second), None
            for _ in range(60):
                e = chance.randrange(14)
                if chance.random() < 0.6:
                    (bench.take if e in bench.members() else bench.put)(e)
                elif first[0][0] == "uniform":
                    bench.set_bound(1, 0, 0, chance.randint(0, 14))
                else:
                    bench.set_data(1, 0, e, chance.choice(first[0][2]))
                self.assertLessEqual(max(bench.lost(), bench.rows()), bench.most())
                self.check_large(bench)
                last = told(bench)
            while bench.undo():
                pass
            self.assertEqual(told(bench), told(Bench(first, second)))
            while bench.redo():
                pass
            self.assertEqual(told(bench), last)

    def check_large(self, bench):
        """Checks the kept set by the judge, in the matroids without the elements that are out."""
        out = [e for e in range(14) if e not in bench.members()]
        first, second = (left_out(matroid, out) for matroid in (bench.first(), bench.second()))
        renumbered = {e: at for at, e in enumerate(bench.members())}
        kept, shown = ([renumbered[e] for e in members] for members in (bench.kept(), bench.shown()))
        self.assertIs(judge_common(first, second, kept, shown), True)

    def test_lists_are_new(self):
        bench = Bench(FIRST, SECOND)
        before = told(bench)
        for call in (bench.members, bench.kept, bench.shown):
            call().append(9)
            self.assertIs(type(call()), list)
            self.assertIsNot(call(), call())
        self.assertEqual(told(bench), before)
        bench.take(0)
        bench.kept().clear()
        bench.undo()
        self.assertEqual(told(bench), before)

    def test_benches_are_independent_of_one_another(self):
        one, other = Bench(FIRST, SECOND), Bench(FIRST, SECOND)
        one.take(1)
        self.assertEqual((other.members(), other.changes()), ([0, 1, 2], 0))

    def test_methods_are_defined_in_the_class(self):
        self.assertEqual(bench_file.Bench.__module__, "bestsets.bench")
        for name in (
            "put take set_data set_bound undo redo first second members kept shown lost rows most changes undone"
        ).split():
            self.assertIn(name, vars(Bench))


def left_out(matroid, out):
    """The matroid without some elements."""
    for number, e in enumerate(sorted(out, reverse=True)):
        matroid = matroid + (("delete", len(matroid) - 1, e),)
    return matroid


def equal_matroids(chance, lines, most):
    """Two matroids of the same size, which is not 0, of at most so many lines and elements."""
    found = {}
    while True:
        many = lines if lines == 20 else chance.randint(1, lines)
        matroid = some_matroid(chance, many, most)
        counts = []
        for line in matroid:
            counts.append(made_count(line, counts) if line[0] in MADE else count_of(line))
        if counts[-1] in found and chance.random() < 0.7:
            return found[counts[-1]], matroid
        if counts[-1] > 1:
            found[counts[-1]] = matroid


if __name__ == "__main__":
    unittest.main()
