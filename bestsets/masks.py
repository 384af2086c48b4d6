"""Sets as masks: the sums of 2 to the power of e for their elements e."""


def mask_of(members):
    """The mask of a set."""
    return sum([1 << member for member in members])


def members_of(mask):
    """The elements of the set with this mask, in ascending order."""
    return [place for place in range(mask.bit_length()) if mask >> place & 1]


def single_masks(mask):
    """The masks of the single elements of the set with this mask."""
    return [1 << member for member in members_of(mask)]
