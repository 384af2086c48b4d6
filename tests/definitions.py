"""What the document says of the kinds, as plainly as possible and without speed."""

import random
from itertools import combinations, permutations, product

MADE = ("dual", "delete", "contract", "sum", "truncate", "union")


def count_of(line):
    """The number of elements of a line of point 3."""
    if line[0] in ("graph", "vectors", "choices"):
        return len(line[-1])
    return line[1]


def is_cycle(line, members):
    """Whether every vertex is an even number of times an end of these arcs."""
    ends = [end for member in members for end in line[2][member]]
    return all(ends.count(end) % 2 == 0 for end in ends)


def cancels(line, members):
    """Whether multiples of these vectors, none of them by 0, add up to 0."""
    _, prime, width, vectors = line
    rows = [vectors[member] for member in members]
    # A combination that gives 0 can be scaled until its first factor is 1.
    for factors in product([1], *[range(1, prime)] * (len(rows) - 1)):
        if all(sum(f * row[at] for f, row in zip(factors, rows)) % prime == 0 for at in range(width)):
            return True
    return False


def can_be_given(line, members, used=()):
    """Whether each element can be given a thing of its own tuple that is not used."""
    if not members:
        return True
    return any(
        can_be_given(line, members[1:], used + (thing,)) for thing in line[2][members[0]] if thing not in used
    )


def breaks_bound(line, members):
    """Whether some bound is smaller than the number of elements in its set."""
    return any(len(set(inside) & set(members)) > bound for inside, bound in line[2])


def breaks(line, members):
    """Whether a set of which all smaller sets are independent is not independent."""
    name = line[0]
    if name == "graph":
        return is_cycle(line, members)
    if name == "vectors":
        return cancels(line, members)
    if name == "choices":
        return not can_be_given(line, members)
    if name == "bounds":
        return breaks_bound(line, members)
    if name == "uniform":
        return len(members) > line[2]
    return not any(set(members) <= set(base) for base in line[2])


def members_of(mask):
    """The list of the elements of the set with this code."""
    return [e for e in range(mask.bit_length()) if mask >> e & 1]


def all_ranks(line):
    """The ranks of all sets by their codes, from the definition of independent sets."""
    independent = [True]
    ranks = [0]
    for mask in range(1, 2 ** count_of(line)):
        members = members_of(mask)
        smaller = [mask ^ (1 << e) for e in members]
        independent.append(all(independent[code] for code in smaller) and not breaks(line, members))
        ranks.append(len(members) if independent[mask] else max(ranks[code] for code in smaller))
    return ranks


def orders_of(members, chance):
    """A set in ascending, descending and mixed order; a small one in every order."""
    if len(members) <= 3:
        return [list(order) for order in permutations(members)]
    return [members, members[::-1], chance.sample(members, len(members))]


def can_all_exchange(bases):
    """Whether the exchange of point 3 is possible for any two bases."""
    sets = [frozenset(base) for base in bases]
    return all(
        any(one - {x} | {y} in sets for y in other - one) for one in sets for other in sets for x in one - other
    )


def do_cross(one, other):
    """Whether two sets share elements, and neither contains the other."""
    one, other = set(one), set(other)
    return bool(one & other) and not one <= other and not other <= one


def some_subset(count, chance):
    """A set of numbers below count as an ascending tuple."""
    return tuple(number for number in range(count) if chance.random() < 0.5)


def some_graph(count, chance):
    vertices = chance.randint(1, 5)
    return ("graph", vertices, tuple((chance.randrange(vertices), chance.randrange(vertices)) for _ in range(count)))


def some_vectors(count, chance):
    prime = chance.choice((2, 3, 5, 7))
    width = chance.randint(0, 3)
    return ("vectors", prime, width, tuple(tuple(chance.choices(range(prime), k=width)) for _ in range(count)))


def some_choices(count, chance):
    things = chance.randint(0, 5)
    return ("choices", things, tuple(some_subset(things, chance) for _ in range(count)))


def some_bounds(count, chance):
    sets = []
    for _ in range(chance.randint(0, 9)):
        inside = some_subset(count, chance)
        if not any(do_cross(inside, other) for other in sets):
            sets.append(inside)
    return ("bounds", count, tuple((inside, chance.randint(0, 3)) for inside in sets))


def some_uniform(count, chance):
    return ("uniform", count, chance.randint(0, count))


def some_bases(count, chance):
    """The bases of a line of another kind, in any order."""
    kind = chance.choice((some_graph, some_vectors, some_choices, some_bounds, some_uniform))
    ranks = all_ranks(kind(count, chance))
    bases = [
        base for base in combinations(range(count), ranks[-1]) if ranks[sum(2 ** e for e in base)] == ranks[-1]
    ]
    return ("bases", count, tuple(chance.sample(bases, len(bases))))


def some_lines(seed, many):
    """For each kind many lines of at most six elements, the same ones for the same seed."""
    chance = random.Random(seed)
    kinds = (some_graph, some_vectors, some_choices, some_bounds, some_uniform, some_bases)
    return [kind(chance.randint(0, 6), chance) for kind in kinds for _ in range(many)]


def moved_up(members, element):
    """The elements of a deletion or contraction, as they are numbered in the line it was made of."""
    return [member + 1 if member >= element else member for member in members]


def code_of(members):
    """The code of a set."""
    return sum(2 ** member for member in members)


def parts_of(code):
    """The codes of all subsets of the set with this code."""
    part = code
    while part:
        yield part
        part = (part - 1) & code
    yield 0


def is_independent_made(line, code, counts, ranks):
    """Whether a set is independent in a line of point 5, given the earlier lines' sizes and ranks."""
    name, i = line[:2]
    members = members_of(code)

    def independent(number, inside):
        return ranks[number][code_of(inside)] == len(inside)

    if name == "dual":
        return ranks[i][2 ** counts[i] - 1 - code] == ranks[i][-1]
    if name == "delete":
        return independent(i, moved_up(members, line[2]))
    if name == "contract":
        others = moved_up(members, line[2])
        return independent(i, others + [line[2]] if independent(i, [line[2]]) else others)
    if name == "sum":
        low = [member for member in members if member < counts[i]]
        return independent(i, low) and independent(line[2], [e - counts[i] for e in members if e >= counts[i]])
    if name == "truncate":
        return independent(i, members) and len(members) <= line[2]
    return any(
        independent(i, members_of(part)) and independent(line[2], members_of(code - part)) for part in parts_of(code)
    )


def made_count(line, counts):
    """The number of elements of a line of point 5, given those of the earlier lines."""
    count = counts[line[1]]
    if line[0] == "sum":
        return count + counts[line[2]]
    return count - 1 if line[0] in ("delete", "contract") else count


def made_ranks(line, counts, ranks):
    """The ranks of all sets of a line of point 5 by their codes, from the definition of independent sets."""
    found = [0]
    for code in range(1, 2 ** made_count(line, counts)):
        smaller = [found[code - 2 ** member] for member in members_of(code)]
        # A set with a smaller set that is not independent is not independent.
        independent = min(smaller) == len(smaller) - 1 and is_independent_made(line, code, counts, ranks)
        found.append(len(smaller) if independent else max(smaller))
    return found


def ranks_of_lines(matroid):
    """For each line of a matroid the ranks of all sets by their codes."""
    counts = []
    ranks = []
    for line in matroid:
        made = line[0] in MADE
        ranks.append(made_ranks(line, counts, ranks) if made else all_ranks(line))
        counts.append(made_count(line, counts) if made else count_of(line))
    return ranks


def bases_of(ranks):
    """All bases in ascending order, given the ranks of all sets by their codes."""
    found = [members_of(code) for code, rank in enumerate(ranks) if rank == ranks[-1] == len(members_of(code))]
    return sorted(found)


def union_depth(matroid, number):
    """How many unions are nested in one another in a line."""
    line = matroid[number]
    earlier = line[1:3] if line[0] in ("sum", "union") else line[1:2]
    if line[0] not in MADE:
        return 0
    return max(union_depth(matroid, other) for other in earlier) + (line[0] == "union")


def some_made(counts, chance):
    """A line made of lines with these sizes; it may be at fault."""
    name = chance.choice(MADE)
    i = chance.randrange(len(counts))
    if name == "dual":
        return (name, i)
    if name in ("delete", "contract"):
        return (name, i, chance.randrange(max(1, counts[i])))
    if name == "truncate":
        return (name, i, chance.randint(0, min(14, counts[i] + 1)))
    return (name, i, chance.randrange(len(counts)))


def fits(matroid, counts, most):
    """Whether the last line is valid, with at most so many elements and at most four unions in one another."""
    name, i, *rest = matroid[-1]
    if name in ("delete", "contract") and counts[i] == 0:
        return False
    if name == "sum" and counts[i] + counts[rest[0]] > most:
        return False
    if name == "union" and counts[i] != counts[rest[0]]:
        return False
    return union_depth(matroid, len(matroid) - 1) <= 4


def some_matroid(chance, lines, most):
    """A valid matroid of so many lines, each one with at most so many elements."""
    kinds = (some_graph, some_vectors, some_choices, some_bounds, some_uniform, some_bases)
    count = chance.randint(0, most)
    first = chance.randint(1, min(lines, 3))
    matroid = tuple(chance.choice(kinds)(chance.choice((count, chance.randint(0, most))), chance) for _ in range(first))
    counts = [count_of(line) for line in matroid]
    while len(matroid) < lines:
        line = some_made(counts, chance)
        if fits(matroid + (line,), counts, most):
            matroid = matroid + (line,)
            counts.append(made_count(line, counts))
    return matroid


def some_matroids(seed, many, lines, most):
    """Many valid matroids of at most so many lines and elements, the same ones for the same seed."""
    chance = random.Random(seed)
    return [some_matroid(chance, chance.randint(1, lines), most) for _ in range(many)]
