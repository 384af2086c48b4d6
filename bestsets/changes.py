"""Matroids with other data or another bound in one line, and how often a line stands in a matroid."""

from bestsets.errors import NoSuchBound, NoSuchLine, UnknownElement
from bestsets.lines import MADE_MEMBERS, check_valid, line_sizes, made_of

KINDS_WITH_DATA = ("graph", "vectors", "choices")
KINDS_WITH_BOUNDS = ("bounds", "uniform")


def with_data(matroid, number, element, data):
    """The matroid in which an element of a line has other data.

    Raises NoSuchLine, UnknownElement and InvalidMatroid.
    """
    line = line_of(matroid, number, KINDS_WITH_DATA)
    if not 0 <= element < line_sizes(matroid)[number]:
        raise UnknownElement(element)
    return with_line(matroid, number, line[:-1] + (with_item(line[-1], element, data),))


def with_bound(matroid, number, place, bound):
    """The matroid in which a bound of a line is another one.

    Raises NoSuchLine, NoSuchBound and InvalidMatroid.
    """
    line = line_of(matroid, number, KINDS_WITH_BOUNDS)
    if not 0 <= place < len(bounds_of(line)):
        raise NoSuchBound(place)
    if line[0] == "uniform":
        return with_line(matroid, number, line[:-1] + (bound,))
    pair = (line[2][place][0], bound)
    return with_line(matroid, number, line[:-1] + (with_item(line[2], place, pair),))


def bounds_of(line):
    """The bounds of a line of bounds, or the one rank of a uniform line."""
    if line[0] == "uniform":
        return [line[2]]
    return [bound for _, bound in line[2]]


def line_of(matroid, number, names):
    """The line with this number, which has one of the names; raises NoSuchLine."""
    if not 0 <= number < len(matroid) or matroid[number][0] not in names:
        raise NoSuchLine(number)
    return matroid[number]


def with_item(items, place, item):
    """The tuple in which another item stands at a place."""
    return items[:place] + (item,) + items[place + 1:]


def with_line(matroid, number, line):
    """The matroid with another line; raises InvalidMatroid."""
    changed = with_item(matroid, number, line)
    check_valid(changed)
    return changed


def places_of(matroid, number):
    """How often the line with this number stands in the matroid."""
    places = []
    for place, line in enumerate(matroid):
        if place == number:
            places.append(1)
        elif line[0] in MADE_MEMBERS:
            places.append(sum([places[earlier] for earlier in made_of(line)]))
        else:
            places.append(0)
    return places[-1]
