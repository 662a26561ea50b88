"""The size of a shape, as the nearest double."""

from landshapes.coordinates import SIGN, goes_round
from landshapes.reading import AREA

# A double has this many bits, with the leading one.
DOUBLE_WIDTH = 53

# Sizes are counted in 2^-2149, half of what goes_round counts in. The smallest double above 0 (2^-1074) is 2^1075 of
# these: no double holds the last 1075 bits of a size.
FEWEST_DROPPED = 1075


def size_bits(shape):
    if shape.kind != AREA:
        return 0
    return nearest_double(-sum([goes_round(ring) for ring in shape.parts]))


def nearest_double(size):
    whole = abs(size)
    dropped = max(whole.bit_length() - DOUBLE_WIDTH, FEWEST_DROPPED)
    # The leading bit of what is kept, where it is there, adds the one to the exponent that tells so; so does a carry.
    bits = ((dropped - FEWEST_DROPPED) << (DOUBLE_WIDTH - 1)) + without_last_bits(whole, dropped)
    if size < 0:
        return SIGN | bits
    return bits


# To the nearest, of two as near to the even one.
def without_last_bits(whole, dropped):
    kept = whole >> dropped
    rest = whole - (kept << dropped)
    half = 1 << (dropped - 1)
    if rest > half or (rest == half and kept % 2 == 1):
        return kept + 1
    return kept
