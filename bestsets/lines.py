"""Matroids written as tuples of lines: their faults and their sizes."""

from bestsets.errors import InvalidMatroid
from bestsets.kind_faults import MOST_BOUND, MOST_ELEMENTS, kind_fault

MOST_LINES = 20

# For each name the number of members of its lines, the name included.
KIND_MEMBERS = {"graph": 3, "vectors": 4, "choices": 3, "bounds": 3, "uniform": 3, "bases": 3}
MADE_MEMBERS = {"dual": 2, "delete": 3, "contract": 3, "sum": 3, "truncate": 3, "union": 3}


def fault(matroid):
    """None for a valid matroid, otherwise the number of the first wrong line and a word."""
    if len(matroid) == 0:
        return (0, "lines")
    if len(matroid) > MOST_LINES:
        return (MOST_LINES, "lines")
    sizes = []
    for number, line in enumerate(matroid):
        word = line_fault(line, sizes)
        if word is not None:
            return (number, word)
        sizes.append(line_size(line, sizes))
    return None


def check_valid(matroid):
    """Raises InvalidMatroid if a matroid is not valid."""
    found = fault(matroid)
    if found is not None:
        raise InvalidMatroid(found[0])


def size(matroid):
    """The size of the last line of a valid matroid."""
    return line_sizes(matroid)[-1]


def line_sizes(matroid):
    """The sizes of all lines of a valid matroid."""
    sizes = []
    for line in matroid:
        sizes.append(line_size(line, sizes))
    return sizes


def line_size(line, sizes):
    """The size of a valid line, given the sizes of the lines before it."""
    name = line[0]
    if name in ("graph", "vectors", "choices"):
        return len(line[-1])
    if name in KIND_MEMBERS:
        return line[1]
    if name in ("delete", "contract"):
        return sizes[line[1]] - 1
    if name == "sum":
        return sizes[line[1]] + sizes[line[2]]
    return sizes[line[1]]


def line_fault(line, sizes):
    """The word of the first fault of a line, or None, given the sizes of the lines before it."""
    name = line[0]
    if name in KIND_MEMBERS:
        return "form" if len(line) != KIND_MEMBERS[name] else kind_fault(line)
    if name in MADE_MEMBERS:
        return "form" if len(line) != MADE_MEMBERS[name] else made_fault(line, sizes)
    return "name"


def made_fault(line, sizes):
    """The word of the first fault of a line made of earlier ones, or None."""
    name = line[0]
    if not all(0 <= number < len(sizes) for number in made_of(line)):
        return "line"
    if name in ("delete", "contract") and not 0 <= line[2] < sizes[line[1]]:
        return "element"
    if name == "truncate" and not 0 <= line[2] <= MOST_BOUND:
        return "bound"
    if name == "sum" and line_size(line, sizes) > MOST_ELEMENTS:
        return "size"
    if name == "union" and sizes[line[1]] != sizes[line[2]]:
        return "size"
    return None


def made_of(line):
    """The numbers of the lines that a line is made of."""
    if line[0] in ("sum", "union"):
        return line[1:]
    return line[1:2]
