"""Bits of whole numbers, as states have them."""


def lowest_bits(many):
    return (1 << many) - 1


def parts_of(bits):
    """All numbers that have none but these bits, rising."""
    parts = [0]
    for place in range(bits.bit_length()):
        bit = 1 << place
        if bits & bit != 0:
            parts = parts + [part | bit for part in parts]
    return parts
