"""Coordinates (doubles, kept by their bits), points (pairs of them) and what is exactly told of these."""

SIGN = 0x8000000000000000
FRACTION = 0x000FFFFFFFFFFFFF
HIDDEN_ONE = 0x0010000000000000
EXPONENT = 0x7FF

# The bits of 2^40.
FARTHEST = 0x4270000000000000


# Bits without the sign rise as the numbers do, and infinity and NaN come last of all: one comparison refuses them too.
def is_coordinate(bits):
    return bits & (SIGN - 1) <= FARTHEST and bits != SIGN


# Counted in the smallest double above 0 (2^-1074), every coordinate is a whole number.
def exact(bits):
    exponent = bits >> 52 & EXPONENT
    size = bits & FRACTION
    if exponent > 0:
        size = (size | HIDDEN_ONE) << (exponent - 1)
    if bits & SIGN:
        return -size
    return size


def box_of(points):
    if len(points) == 0:
        return [0, 0, 0, 0]
    xs = [point[0] for point in points]
    ys = [point[1] for point in points]
    return [min(xs, key=exact), min(ys, key=exact), max(xs, key=exact), max(ys, key=exact)]


def exact_point(point):
    return (exact(point[0]), exact(point[1]))


# The ends are exact, so that nothing that is worked out from a way is rounded.
def ways(points):
    ends = [exact_point(point) for point in points]
    return list(zip(ends, ends[1:]))


# A product of two exact values: this is counted in 2^-2148.
def goes_round(ring):
    return sum([start[0] * end[1] - end[0] * start[1] for start, end in ways(ring)])
