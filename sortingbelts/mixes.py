"""Mixes: so many kilograms of each kind of waste, as tuples, so that states can share them."""

KINDS = 6
THOUSAND = 1000
NOTHING = (0, 0, 0, 0, 0, 0)


def only(kind, kg):
    return tuple([kg if other == kind else 0 for other in range(KINDS)])


def added(mix, other):
    return tuple([kg + more for kg, more in zip(mix, other)])


def lessened(mix, part):
    return tuple([kg - gone for kg, gone in zip(mix, part)])


def parted(mix, setting):
    """What of the mix goes to side 0; the rest, with all that rounding left, is side 1's."""
    return tuple([kg * share // THOUSAND for kg, share in zip(mix, setting)])
