"""Representatives of sets of elements, and matchings of choices with things."""

from bestsets.exchanges import moved_by
from bestsets.ranks import Ranks
from bestsets.rules import Groups, Images, Part


def representatives(matroid, sets):
    """Pairs of the number of a set and an element that represents it, and the sets with too few elements."""
    pairs = [(number, element) for number, members in enumerate(sets) for element in members]
    one = Groups([number for number, _ in pairs])
    other = Images(Ranks(matroid), [element for _, element in pairs])
    _, _, taken, reached = moved_by(one, other, [])
    too_few = crowd_of(pairs, reached, list(range(len(sets))))
    return (sorted([pairs[place] for place in taken]), too_few)


def matching(line, members):
    """Pairs of an element and a thing, and a cover: its elements and its things."""
    pairs = [(element, thing) for element, things in enumerate(line[2]) for thing in things]
    allowed = sum([1 << place for place, (element, _) in enumerate(pairs) if element in members])
    one = Part(Groups([element for element, _ in pairs]), allowed, 0)
    other = Groups([thing for _, thing in pairs])
    _, _, taken, reached = moved_by(one, other, [])
    crowd = crowd_of(pairs, reached, sorted(members))
    cover_things = sorted({thing for element in crowd for thing in line[2][element]})
    cover_members = [element for element in sorted(members) if element not in crowd]
    return (sorted([pairs[place] for place in taken]), cover_members, cover_things)


def crowd_of(pairs, reached, owners):
    """The owners of which all pairs are reached; those without pairs are among them."""
    missed = {owner: True for place, (owner, _) in enumerate(pairs) if place not in reached}
    return [owner for owner in owners if owner not in missed]
