"""Bits: numbers that stand for sets of indexes."""


def indexes_in(bits):
    """Return the ascending list of the indexes of the bits of a number."""
    indexes = []
    left = bits
    while left:
        index = left.bit_length() - 1
        indexes.append(index)
        left = left - (1 << index)
    return indexes[::-1]
