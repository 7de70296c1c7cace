"""Sets of whole numbers told as bits: bit v is 1 where v is in the set."""


def is_single(bits):
    return bits != 0 and bits & (bits - 1) == 0


def least(bits):
    """The least member of a set that isn't empty."""
    return (bits & -bits).bit_length() - 1


def greatest(bits):
    """The greatest member of a set that isn't empty."""
    return bits.bit_length() - 1


def members(bits):
    """All members, the least first."""
    found = []
    rest = bits
    while rest:
        found.append(least(rest))
        rest = rest & (rest - 1)
    return found


def sets_of(m, n):
    """All sets of m numbers from 1 to n, the least as a number first."""
    return [bits for bits in range(0, 1 << (n + 1), 2) if len(members(bits)) == m]
