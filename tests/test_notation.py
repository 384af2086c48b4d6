"""Written matroids: points 9 and 10."""

import unittest

from definitions import some_matroids
from samples import FOURS, LONG_LINES

from bestsets import notation
from bestsets.errors import InvalidLine, InvalidMatroid
from bestsets.lines import fault
from bestsets.notation import format_matroid, parse_matroid

# Texts of lines and the lines themselves.
KINDS = (
    ("graph 3 0-1 1-2 2-0", ("graph", 3, ((0, 1), (1, 2), (2, 0)))),
    ("graph 24 23-0 10-10", ("graph", 24, ((23, 0), (10, 10)))),
    ("graph 0", ("graph", 0, ())),
    ("graph 5", ("graph", 5, ())),
    ("vectors 5 2 0,4 3,1", ("vectors", 5, 2, ((0, 4), (3, 1)))),
    ("vectors 2 1 1 0 1", ("vectors", 2, 1, ((1,), (0,), (1,)))),
    ("vectors 7 0 . .", ("vectors", 7, 0, ((), ()))),
    ("vectors 3 8 0,1,2,0,1,2,0,1", ("vectors", 3, 8, ((0, 1, 2, 0, 1, 2, 0, 1),))),
    ("vectors 3 2", ("vectors", 3, 2, ())),
    ("vectors 2 0", ("vectors", 2, 0, ())),
    ("choices 14 0,13 . 5 10,11,12", ("choices", 14, ((0, 13), (), (5,), (10, 11, 12)))),
    ("choices 0 . .", ("choices", 0, ((), ()))),
    ("choices 3", ("choices", 3, ())),
    ("bounds 4 0,1,2<2 0,1<1 3<0", ("bounds", 4, (((0, 1, 2), 2), ((0, 1), 1), ((3,), 0)))),
    ("bounds 11 .<14 0,10<3", ("bounds", 11, (((), 14), ((0, 10), 3)))),
    ("bounds 0 .<0 .<0", ("bounds", 0, (((), 0), ((), 0)))),
    ("bounds 0", ("bounds", 0, ())),
    ("uniform 14 10", ("uniform", 14, 10)),
    ("uniform 0 0", ("uniform", 0, 0)),
    ("bases 4 1,2 0,1 1,3", ("bases", 4, ((1, 2), (0, 1), (1, 3)))),
    ("bases 12 11 10 0", ("bases", 12, ((11,), (10,), (0,)))),
    ("bases 3 .", ("bases", 3, ((),))),
)

EARLIER_TEXT = "uniform 5 2\ngraph 2 0-1 0-1 1-1\nuniform 0 0"
EARLIER = (("uniform", 5, 2), ("graph", 2, ((0, 1), (0, 1), (1, 1))), ("uniform", 0, 0))

MADE = (
    ("dual 0", ("dual", 0)),
    ("dual 2", ("dual", 2)),
    ("delete 0 4", ("delete", 0, 4)),
    ("delete 1 0", ("delete", 1, 0)),
    ("contract 0 4", ("contract", 0, 4)),
    ("contract 1 2", ("contract", 1, 2)),
    ("sum 0 1", ("sum", 0, 1)),
    ("sum 2 0", ("sum", 2, 0)),
    ("truncate 0 14", ("truncate", 0, 14)),
    ("truncate 1 0", ("truncate", 1, 0)),
    ("union 0 0", ("union", 0, 0)),
    ("union 2 2", ("union", 2, 2)),
)

UNREADABLE = (
    # Names.
    "", " ", ".", "0", "lines 1", "Graph 3", "GRAPH 3", "graphs 3", "grap 3", "unions 0 0", "dua 0", "# 3", "-", "None",
    # Integers that are missing.
    "graph", "vectors", "vectors 2", "choices", "bounds", "uniform", "uniform 3", "bases", "dual", "delete",
    "delete 0", "contract", "contract 0", "sum", "sum 0", "truncate", "truncate 0", "union", "union 0",
    # Data where an integer should be.
    "graph 0-1", "graph 0-1 2", "vectors 2 0,1", "vectors 0,1 2", "vectors 2 .", "vectors . 2", "choices 0,1",
    "choices .", "bounds 0<1", "bounds .<1", "bases 0,1", "bases .", "uniform 3 .", "uniform 3,2", "uniform . 3",
    # More integers than asked for.
    "graph 3 4", "graph 3 0-1 2", "bounds 3 4", "bounds 3 0<1 2", "uniform 3 2 1", "dual 0 0", "delete 0 0 0",
    "contract 0 0 0", "sum 0 0 0", "truncate 0 1 2", "union 0 0 0", "dual 0 .", "uniform 3 2 .",
    # Signs.
    "graph +3", "graph -3", "graph 3 -1-0", "graph 3 0--1", "graph 3 +1-0", "graph 3 1-+0", "vectors +2 1 1",
    "vectors 2 -1", "vectors 2 1 -1", "vectors 2 2 1,+1", "choices -1", "choices 3 0,-1", "choices 3 +0", "bounds -1",
    "bounds 3 0<-1", "bounds 3 0<+1", "bounds 3 -0<1", "uniform 3 -1", "uniform +3 1", "uniform -0 0", "bases +2 0",
    "bases 2 -1", "dual -1", "dual +0", "delete 0 -1", "sum 0 +0", "truncate 0 -1", "union -1 0",
    # Leading zeros.
    "graph 03", "graph 3 00-1", "graph 3 0-01", "vectors 02 1", "vectors 2 01 1", "vectors 2 1 01", "vectors 2 2 0,00",
    "choices 00", "choices 3 00", "choices 3 0,01", "bounds 03", "bounds 3 00<1", "bounds 3 0<01", "uniform 3 00",
    "uniform 003 1", "uniform 0000 0", "bases 01 0", "bases 2 01", "dual 00", "delete 0 01", "contract 01 0",
    "sum 0 00", "truncate 0 01", "union 00 0",
    # Five digits.
    "graph 10000", "graph 3 0-10000", "graph 3 10000-0", "vectors 10000 1", "vectors 2 10000", "vectors 2 1 10000",
    "choices 10000", "choices 3 0,10000", "bounds 10000", "bounds 3 10000<1", "bounds 3 0<10000", "uniform 10000 0",
    "uniform 3 12345", "bases 10000 0", "bases 2 10000", "dual 10000", "delete 0 10000", "truncate 0 10000",
    "union 10000 0", "uniform 100000000000 1",
    # Spaces.
    "graph  3", " graph 3", "graph 3 ", "graph 3  0-1", "graph 3 0-1 ", "graph 3 0 -1", "graph 3 0- 1", "graph\t3",
    "vectors 2  1 1", "vectors 2 1 1 ", "vectors 2 2 1, 1", "choices 3  0", "choices 3 0 ", "bounds 3 0 <1",
    "bounds 3 0< 1", "bounds  3 0<1", "uniform 3  1", "uniform 3 1 ", " uniform 3 1", "uniform  3 1", "uniform ",
    "bases 2  0", "bases 2 0 ", "dual 0 ", "dual  0", " dual 0", "dual\t0", "union 0  0", "dual ", "uniform 3 1\r",
    "uniform\xa03 1", "uniform 3\x0b1",
    # Joining signs.
    "graph 3 0,1", "graph 3 0<1", "graph 3 01", "graph 3 0", "graph 3 .", "graph 3 0-", "graph 3 -1", "graph 3 -",
    "graph 3 0-1-2", "graph 3 0_1", "graph 3 .-1", "vectors 2 2 0-1", "vectors 2 2 0<1", "vectors 2 2 0.1",
    "vectors 2 2 0,1,", "vectors 2 2 ,0,1", "vectors 2 2 0,,1", "vectors 2 2 ,", "vectors 2 2 0;1", "vectors 2 0 ..",
    "choices 3 0-1", "choices 3 0,", "choices 3 ,0", "choices 3 0,,1", "choices 3 0.1", "choices 3 .,0",
    "choices 3 0,.",
    "bounds 3 0,1", "bounds 3 .", "bounds 3 0,1-1", "bounds 3 0>1", "bounds 3 0,<1", "bounds 3 0<", "bounds 3 <1",
    "bounds 3 0<1<2", "bounds 3 0<1,2", "bounds 3 0<.", "bounds 3 <", "bounds 3 ,<1", "bounds 3 .,0<1", "bases 3 0-1",
    "bases 3 0,", "bases 3 .0", "bases 3 0<1", "bases 3 ,",
    # Letters and digits of other kinds.
    "graph x", "graph 3 a-b", "graph 3 0-b", "graph 0x3", "vectors 2 1 x", "vectors two 1", "choices 3 0,x",
    "bounds 3 x<1", "bounds 3 0<x", "uniform 3 x", "uniform 1e1 1", "uniform 1_0 1", "uniform 3.0 1", "bases 3 x",
    "dual x", "dual 0x",
    "sum 0 x", "union 0 zero", "uniform \u0663 1", "uniform 3 \u00b2", "graph 3 0-\uff11", "dual \u0660",
)

# For each word a text that can be read, of lines of which the last one is at fault.
FAULTS = (
    ("vertices", "graph 25"),
    ("vertices", "graph 9999 0-9999"),
    ("arcs", "graph 3 0-3"),
    ("arcs", "graph 2" + " 0-1" * 15),
    ("prime", "vectors 4 1 1"),
    ("width", "vectors 2 9"),
    ("vectors", "vectors 2 2 0,1 1"),
    ("vectors", "vectors 2 1 3"),
    ("vectors", "vectors 2 1 ."),
    ("vectors", "vectors 2 0 0"),
    ("things", "choices 15"),
    ("choices", "choices 3 1,0"),
    ("choices", "choices 3 4"),
    ("size", "bounds 15"),
    ("bounds", "bounds 3 0,0<1"),
    ("bounds", "bounds 3 0<15"),
    ("crossing", "bounds 3 0,1<1 1,2<1"),
    ("size", "uniform 15 0"),
    ("rank", "uniform 3 4"),
    ("size", "bases 13 0"),
    ("bases", "bases 2"),
    ("bases", "bases 2 0 0"),
    ("bases", "bases 3 0,1 2"),
    ("exchange", "bases 4 0,1 2,3"),
    ("line", "dual 0"),
    ("line", "uniform 1 1\nunion 0 1"),
    ("element", "uniform 3 2\ndelete 0 3"),
    ("element", "uniform 3 2\ncontract 0 9999"),
    ("bound", "uniform 3 2\ntruncate 0 15"),
    ("size", "uniform 8 2\nsum 0 0"),
    ("size", "uniform 8 2\nuniform 7 2\nunion 0 1"),
)


class FormatTest(unittest.TestCase):
    def test_the_example_of_the_interface(self):
        matroid = (("graph", 3, ((0, 1), (1, 2))), ("bounds", 2, (((0, 1), 1),)), ("union", 0, 1))
        self.assertEqual(format_matroid(matroid), "graph 3 0-1 1-2\nbounds 2 0,1<1\nunion 0 1")

    def test_the_text_of_each_name(self):
        for text, line in KINDS:
            with self.subTest(text=text):
                self.assertEqual(format_matroid((line,)), text)
        for text, line in MADE:
            with self.subTest(text=text):
                self.assertEqual(format_matroid(EARLIER + (line,)), EARLIER_TEXT + "\n" + text)

    def test_the_matroid_is_not_modified(self):
        matroid = (("bounds", 3, (((0, 1), 1),)), ("dual", 0))
        format_matroid(matroid)
        self.assertEqual(matroid, (("bounds", 3, (((0, 1), 1),)), ("dual", 0)))


class ParseTest(unittest.TestCase):
    def check_line_error(self, text, number):
        with self.subTest(text=text):
            with self.assertRaises(InvalidLine) as caught:
                parse_matroid(text)
            self.assertEqual(caught.exception.number, number)

    def check_matroid_error(self, text, line):
        with self.subTest(text=text):
            with self.assertRaises(InvalidMatroid) as caught:
                parse_matroid(text)
            self.assertEqual(caught.exception.line, line)

    def check_tuples(self, found):
        """Checks that all lists in what was parsed are tuples, and all else integers and strings."""
        self.assertIn(type(found), (tuple, int, str))
        if type(found) is tuple:
            for part in found:
                self.check_tuples(part)

    def test_the_lines_of_each_name(self):
        for text, line in KINDS:
            with self.subTest(text=text):
                self.assertEqual(parse_matroid(text), (line,))
                self.assertEqual(parse_matroid(text + "\n" + EARLIER_TEXT), (line,) + EARLIER)
        for text, line in MADE:
            with self.subTest(text=text):
                self.assertEqual(parse_matroid(EARLIER_TEXT + "\n" + text), EARLIER + (line,))

    def test_what_is_written_is_read_back_the_same(self):
        matroids = some_matroids(21, 150, 20, 6) + [(line,) for line in LONG_LINES] + [FOURS]
        for matroid in matroids:
            found = parse_matroid(format_matroid(matroid))
            self.assertEqual(found, matroid)
            self.check_tuples(found)

    def test_what_is_read_is_written_the_same(self):
        text = "\n".join([EARLIER_TEXT] + [text for text, _ in MADE] + [text for text, _ in KINDS[:5]])
        self.assertEqual(len(text.split("\n")), 20)
        self.assertEqual(format_matroid(parse_matroid(text)), text)

    def test_integers_of_four_digits_can_be_read(self):
        for text in ("graph 9999", "graph 3 9999-1000", "vectors 2 1 9999", "choices 3 9999", "bounds 3 9999<1",
                     "bounds 3 0<9999", "uniform 9999 1000", "bases 3 9999", "dual 9999"):
            self.check_matroid_error(text, 0)

    def test_unreadable_lines_at_every_place(self):
        readable = ("uniform 3 2", "graph 3 0-1 1-2 2-0", "union 0 1")
        for line in UNREADABLE:
            self.check_line_error(line, 0)
            self.check_line_error("\n".join((line,) + readable), 0)
            self.check_line_error("\n".join((readable[0], line) + readable[1:]), 1)
            self.check_line_error("\n".join(readable + (line,)), 3)

    def test_the_first_of_several_unreadable_lines_counts(self):
        for line in UNREADABLE:
            self.check_line_error("\n".join(("uniform 3 2", line, "dual 0", "x", line)), 1)

    def test_the_empty_text(self):
        self.check_line_error("", 0)

    def test_newlines_at_the_ends(self):
        self.check_line_error("uniform 3 2\n", 1)
        self.check_line_error("\nuniform 3 2", 0)
        self.check_line_error("uniform 3 2\n\ndual 0", 1)
        self.check_line_error("\n", 0)
        self.check_line_error("uniform 3 2\r\ndual 0", 0)
        for sign in ("\r", "\x0b", "\x0c", "\x1c", "\x85", "\u2028"):
            self.check_line_error("uniform 3 2" + sign + "dual 0", 0)

    def test_an_unreadable_line_behind_one_at_fault(self):
        for line in UNREADABLE:
            self.check_line_error("uniform 3 4\n" + line, 1)
        for _, text in FAULTS:
            self.check_line_error(text + "\nunion 0", text.count("\n") + 1)
            self.check_line_error(text + "\ndual 0\nx", text.count("\n") + 2)

    def test_each_word_of_fault(self):
        for word, text in FAULTS:
            last = text.count("\n")
            self.check_matroid_error(text, last)
            self.check_matroid_error(text + "\nuniform 3 2\ndual 9", last)
            if last == 0:
                self.check_matroid_error("uniform 2 1\n" * 3 + text.replace("dual 0", "dual 3"), 3)
            self.assertEqual(self.word_of(text), word)

    def word_of(self, text):
        """The word of the fault of a text, from what its valid part and its last line are."""
        *valid, last = text.split("\n")
        earlier = parse_matroid("\n".join(valid)) if valid else ()
        words = last.split(" ")
        if words[0] in ("uniform", "dual", "delete", "contract", "sum", "truncate", "union"):
            return fault(earlier + ((words[0],) + tuple(int(word) for word in words[1:]),))[1]
        many = 2 if words[0] == "vectors" else 1
        data = tuple(self.data_of(word) for word in words[many + 1:])
        return fault(((words[0],) + tuple(int(word) for word in words[1:many + 1]) + (data,),))[1]

    def data_of(self, word):
        """The data of a word of any kind."""
        if "<" in word:
            inside, bound = word.split("<")
            return (self.data_of(inside), int(bound))
        return tuple(int(part) for part in word.replace("-", ",").split(",") if part != ".")

    def test_all_words_that_can_be_read_occur(self):
        words = {word for word, _ in FAULTS}
        self.assertEqual(words, {
            "vertices", "arcs", "prime", "width", "vectors", "things", "choices", "size", "bounds", "crossing", "rank",
            "bases", "exchange", "line", "element", "bound",
        })

    def test_the_errors_are_those_of_the_package(self):
        with self.assertRaises(ValueError) as caught:
            parse_matroid("dual 0")
        self.assertIs(type(caught.exception), InvalidMatroid)
        with self.assertRaises(ValueError) as caught:
            parse_matroid("dual")
        self.assertIs(type(caught.exception), InvalidLine)

    def test_the_functions_are_defined_in_their_file(self):
        for name in ("format_matroid", "parse_matroid"):
            self.assertEqual(getattr(notation, name).__module__, "bestsets.notation")


if __name__ == "__main__":
    unittest.main()
