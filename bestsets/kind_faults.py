"""The faults of lines of the kinds that are not made of others."""

from bestsets.masks import mask_of, single_masks

MOST_ELEMENTS = 14
MOST_BOUND = 14
MOST_VERTICES = 24
PRIMES = (2, 3, 5, 7)
MOST_WIDTH = 8
MOST_THINGS = 14
MOST_BASES = 60
MOST_BASES_SIZE = 12


def kind_fault(line):
    """The word of the first fault of a line with the right number of members, or None."""
    check = CHECKS[line[0]]
    return check(line)


def graph_fault(line):
    """The word of the first fault of a graph, or None."""
    _, vertices, arcs = line
    if not 0 <= vertices <= MOST_VERTICES:
        return "vertices"
    if len(arcs) > MOST_ELEMENTS or not all(is_arc(arc, vertices) for arc in arcs):
        return "arcs"
    return None


def vectors_fault(line):
    """The word of the first fault of vectors, or None."""
    _, prime, width, vectors = line
    if prime not in PRIMES:
        return "prime"
    if not 0 <= width <= MOST_WIDTH:
        return "width"
    if len(vectors) > MOST_ELEMENTS or not all(is_vector(vector, prime, width) for vector in vectors):
        return "vectors"
    return None


def choices_fault(line):
    """The word of the first fault of choices, or None."""
    _, things, choices = line
    if not 0 <= things <= MOST_THINGS:
        return "things"
    if len(choices) > MOST_ELEMENTS or not all(is_subset(choice, things) for choice in choices):
        return "choices"
    return None


def bounds_fault(line):
    """The word of the first fault of bounds, or None."""
    _, size, bounds = line
    if not 0 <= size <= MOST_ELEMENTS:
        return "size"
    if len(bounds) > MOST_ELEMENTS or not all(is_bound(pair, size) for pair in bounds):
        return "bounds"
    masks = [mask_of(inside) for inside, _ in bounds]
    if any(cross(one, other) for one in masks for other in masks):
        return "crossing"
    return None


def uniform_fault(line):
    """The word of the first fault of a uniform line, or None."""
    _, size, rank = line
    if not 0 <= size <= MOST_ELEMENTS:
        return "size"
    if not 0 <= rank <= size:
        return "rank"
    return None


def bases_fault(line):
    """The word of the first fault of bases, or None."""
    _, size, bases = line
    if not 0 <= size <= MOST_BASES_SIZE:
        return "size"
    if not are_bases(bases, size):
        return "bases"
    masks = {mask_of(base): True for base in bases}
    if not all(exchanges(one, other, masks) for one in masks for other in masks):
        return "exchange"
    return None


def all_below(numbers, limit):
    """Whether all numbers are from 0 to the limit minus 1."""
    return all(0 <= number < limit for number in numbers)


def is_subset(numbers, limit):
    """Whether the numbers are below the limit and strictly ascending."""
    return all_below(numbers, limit) and list(numbers) == sorted(set(numbers))


def is_arc(arc, vertices):
    """Whether it is a pair of vertices."""
    return len(arc) == 2 and all_below(arc, vertices)


def is_vector(vector, prime, width):
    """Whether it is a vector of this width modulo the prime."""
    return len(vector) == width and all_below(vector, prime)


def is_bound(pair, size):
    """Whether it is a set of elements with a bound."""
    inside, bound = pair
    return is_subset(inside, size) and 0 <= bound <= MOST_BOUND


def are_bases(bases, size):
    """Whether they are different sets of elements of one length, not too many or none."""
    if not 1 <= len(bases) <= MOST_BASES:
        return False
    if not all(is_subset(base, size) for base in bases):
        return False
    return len({len(base) for base in bases}) == 1 and len(set(bases)) == len(bases)


def cross(one, other):
    """Whether two sets share elements, and neither contains the other."""
    both = one & other
    return both != 0 and both != one and both != other


def exchanges(one, other, masks):
    """Whether each element of one alone can be exchanged for one of other alone."""
    coming = single_masks(other & ~one)
    for leaving in single_masks(one & ~other):
        if not any((one ^ leaving ^ entering) in masks for entering in coming):
            return False
    return True


CHECKS = {
    "graph": graph_fault,
    "vectors": vectors_fault,
    "choices": choices_fault,
    "bounds": bounds_fault,
    "uniform": uniform_fault,
    "bases": bases_fault,
}
