"""What the document says of two matroids, as plainly as possible and without speed.

A matroid is a number of elements and a function that tells of a set of them
whether it is independent.
"""

import random

from definitions import all_ranks, bases_of, code_of, members_of, ranks_of_lines, some_lines, some_matroids


def same_sizes(matroids, chance):
    """Pairs of matroids of the same size: each one with itself, with the one before it and with another one."""
    by_size = {}
    for matroid, ranks in matroids:
        by_size.setdefault(len(ranks), []).append((matroid, ranks))
    pairs = []
    for group in by_size.values():
        for number, found in enumerate(group):
            pairs += [(found, group[number - 1]), (found, chance.choice(group))]
    return pairs


def rich_graph(count, chance):
    return ("graph", 4, tuple(tuple(chance.sample(range(4), 2)) for _ in range(count)))


def rich_vectors(count, chance):
    prime = chance.choice((2, 3, 5, 7))
    return ("vectors", prime, 3, tuple(tuple(chance.choices(range(prime), k=3)) for _ in range(count)))


def rich_choices(count, chance):
    return ("choices", 4, tuple(tuple(sorted(chance.sample(range(4), chance.randint(1, 2)))) for _ in range(count)))


def rich_bounds(count, chance):
    groups = [chance.randrange(chance.choice((3, 4))) for _ in range(count)]
    sets = [tuple(e for e in range(count) if groups[e] == group) for group in range(4)]
    return ("bounds", count, tuple((inside, chance.choice((1, 1, 1, 2))) for inside in sets))


def rich_uniform(count, chance):
    return ("uniform", count, chance.randint(count // 2, count - 1))


def rich_bases(count, chance):
    ranks = all_ranks(chance.choice((rich_graph, rich_vectors, rich_choices, rich_bounds))(count, chance))
    return ("bases", count, tuple(tuple(base) for base in bases_of(ranks)))


# More than once what often makes rows long.
RICH = (
    rich_graph, rich_vectors, rich_choices, rich_bounds, rich_uniform, rich_bases, rich_bounds, rich_bounds, rich_graph,
)


def rich_matroid(count, chance):
    """A matroid of so many elements in which few sets are independent by themselves or dependent by themselves."""
    kind = chance.choice(RICH)
    lines = (kind(count + 1, chance), chance.choice(RICH)(count, chance))
    made = chance.choice((
        (), ("dual", 1), ("delete", 0, chance.randint(0, count)), ("contract", 0, chance.randint(0, count)),
        ("truncate", 1, 3), ("union", 1, 1),
    ))
    return lines + (made,) if made else lines[1:]


def rich_pairs(seed, many, count):
    """Pairs of matroids of so many elements, with their ranks, for which rows of exchanges are often long."""
    chance = random.Random(seed)
    matroids = [(kind(count, chance),) for kind in RICH] + [rich_matroid(count, chance) for _ in range(many)]
    return same_sizes([(matroid, ranks_of_lines(matroid)[-1]) for matroid in matroids], chance)


def some_pairs(seed, many):
    """Pairs of small matroids of the same size, each one with the ranks of all its sets by their codes.

    They are of every kind, and of made lines.
    """
    chance = random.Random(seed)
    matroids = [(line,) for line in some_lines(seed, many)] + some_matroids(seed + 1, 6 * many, 8, 6)
    return same_sizes([(matroid, ranks_of_lines(matroid)[-1]) for matroid in matroids], chance)


def count_in(ranks):
    """The number of elements, given the ranks of all sets by their codes."""
    return len(ranks).bit_length() - 1


def tester_of(ranks):
    """The function that tells whether a set is independent, given the ranks of all sets by their codes."""
    return lambda members: ranks[code_of(members)] == len(members)


def all_sets(count):
    """All sets of so many elements as lists in ascending order."""
    return [members_of(code) for code in range(2 ** count)]


def common_sets(count, one, other):
    """All common sets as lists in ascending order."""
    return [members for members in all_sets(count) if one(members) and other(members)]


def largest_sets(count, one, other):
    """All largest common sets as lists in ascending order."""
    found = common_sets(count, one, other)
    most = max(len(members) for members in found)
    return [members for members in found if len(members) == most]


def can_follow(one, other, chosen, before, after):
    """Whether an element can follow another one, for the common set that is chosen."""
    if before not in chosen and after in chosen:
        return other(chosen - {after} | {before})
    if before in chosen and after not in chosen:
        return one(chosen - {before} | {after})
    return False


def layers_by_words(count, one, other, members):
    """The layers of point 19."""
    chosen = set(members)
    layer = [x for x in range(count) if x not in chosen and one(chosen | {x})]
    layers = []
    while layer:
        layers.append(layer)
        seen = {e for earlier in layers for e in earlier}
        layer = [
            e for e in range(count)
            if e not in seen and any(can_follow(one, other, chosen, before, e) for before in layers[-1])
        ]
    return layers


def row_by_words(count, one, other, members):
    """The row of exchanges of point 20, or None."""
    chosen = set(members)
    layers = layers_by_words(count, one, other, members)
    for number, layer in enumerate(layers):
        ends = [x for x in layer if x not in chosen and other(chosen | {x})]
        if ends:
            row = [min(ends)]
            for earlier in reversed(layers[:number]):
                row.insert(0, min(e for e in earlier if can_follow(one, other, chosen, e, row[0])))
            return row
    return None


def moved_by_words(count, one, other, members):
    """What is kept, the rows, the set and the shown set of point 21."""
    kept = []
    for member in sorted(members):
        if one(set(kept) | {member}) and other(set(kept) | {member}):
            kept.append(member)
    chosen = set(kept)
    rows = []
    while True:
        row = row_by_words(count, one, other, chosen)
        if row is None:
            layers = layers_by_words(count, one, other, chosen)
            return (kept, rows, sorted(chosen), sorted(e for layer in layers for e in layer))
        rows.append(row)
        chosen = chosen ^ set(row)


def divided_by_words(count, one, other, members):
    """The two sets and the dense set of point 23."""
    def are_copies(copies):
        low = {copy for copy in copies if copy < count}
        high = {copy - count for copy in copies if copy >= count}
        return low | high <= set(members) and one(low) and other(high)

    def are_no_pairs(copies):
        return len({copy % count for copy in copies}) == len(copies)

    _, _, taken, reached = moved_by_words(2 * count, are_copies, are_no_pairs, [])
    low = [copy for copy in taken if copy < count]
    high = [copy - count for copy in taken if copy >= count]
    return (low, high, [e for e in sorted(members) if e not in reached and e + count not in reached])
