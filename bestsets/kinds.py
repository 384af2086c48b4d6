"""The kinds of matroids that are not made of others, and their ranks.

A set of elements is a list in any order. Every kind is a matroid, so taking
elements one after another, each one with which the taken ones stay
independent, gives a largest independent set in whatever order they come.
"""


def rank_of_kind(line, members):
    """The rank of a set in a line of one of the kinds."""
    rank = RANKS[line[0]]
    return rank(line, members)


def graph_rank(line, members):
    """The number of arcs that join two parts not joined before."""
    parents = list(range(line[1]))
    rank = 0
    for member in members:
        tail, head = line[2][member]
        one = root_of(parents, tail)
        other = root_of(parents, head)
        if one != other:
            parents[one] = other
            rank += 1
    return rank


def root_of(parents, vertex):
    """The vertex that stands for the part that a vertex is in."""
    place = vertex
    while parents[place] != place:
        place = parents[place]
    return place


def vectors_rank(line, members):
    """The number of vectors that no combination of earlier ones gives."""
    prime = line[1]
    reduced = []
    for member in members:
        row = reduced_row(line[3][member], reduced, prime)
        pivot = first_nonzero(row)
        if pivot is not None:
            reduced.append((pivot, row))
    return len(reduced)


def reduced_row(vector, reduced, prime):
    """A multiple of the vector plus multiples of rows, 0 at all their pivots."""
    row = list(vector)
    for pivot, other in reduced:
        # Scaling the row by the other one's pivot, which is not 0 modulo
        # the prime, keeps what it spans and needs no inverse.
        scale = other[pivot]
        factor = row[pivot]
        row = [(scale * x - factor * y) % prime for x, y in zip(row, other)]
    return row


def first_nonzero(row):
    """The place of the first number other than 0, or None."""
    for place, number in enumerate(row):
        if number != 0:
            return place
    return None


def choices_rank(line, members):
    """The number of elements that can be given things of their own."""
    owners = {}
    for member in members:
        gives_thing(line[2], member, owners, {})
    return len(owners)


def gives_thing(choices, member, owners, tried):
    """Whether an element gets a thing, others perhaps changing theirs."""
    for thing in choices[member]:
        if thing not in tried:
            tried[thing] = True
            if thing not in owners or gives_thing(choices, owners[thing], owners, tried):
                owners[thing] = member
                return True
    return False


def bounds_rank(line, members):
    """The number of elements that are taken before their bounds are reached."""
    bounds = line[2]
    room = [bound for _, bound in bounds]
    rank = 0
    for member in members:
        places = [place for place, (inside, _) in enumerate(bounds) if member in inside]
        if all(room[place] > 0 for place in places):
            rank += 1
            for place in places:
                room[place] -= 1
    return rank


def uniform_rank(line, members):
    """The number of elements, but at most the rank of the line."""
    return min(len(members), line[2])


def bases_rank(line, members):
    """The greatest number of elements that the set shares with a base."""
    return max([shared(base, members) for base in line[2]])


def shared(base, members):
    """The number of elements that are in both."""
    return len([member for member in members if member in base])


RANKS = {
    "graph": graph_rank,
    "vectors": vectors_rank,
    "choices": choices_rank,
    "bounds": bounds_rank,
    "uniform": uniform_rank,
    "bases": bases_rank,
}
