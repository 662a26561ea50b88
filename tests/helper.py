"""Builds files of shapes, right and wrong ones, and asks the program about them."""

import itertools
import struct

from landshapes.shapes import answers

BEGIN = [0]
COUNT = [2]
REFUSED = [-1]
OF_NOTHING = [-2]
NO_FILE = [-4]

# The ends of what's handed over as a whole number.
LEAST = -2147483648
GREATEST = 2147483647

NAN = struct.unpack("<d", struct.pack("<Q", 0x7FF8000000000000))[0]
INFINITY = float("inf")
FARTHEST = 2.0 ** 40
BEYOND = FARTHEST + 2.0 ** -12
# The smallest double above 0.
TINY = 2.0 ** -1074

TRIANGLE = [(0.0, 0.0), (0.0, 4.0), (3.0, 0.0), (0.0, 0.0)]
SQUARE = [(10.0, 10.0), (10.0, 12.0), (12.0, 12.0), (12.0, 10.0), (10.0, 10.0)]


def box(points):
    if not points:
        return (0.0, 0.0, 0.0, 0.0)
    xs = [x for x, y in points]
    ys = [y for x, y in points]
    return (min(xs), min(ys), max(xs), max(ys))


def all_points(shape):
    """A shape is None, a point (x, y), or a list of parts, each a list of points."""
    if shape is None:
        return []
    if isinstance(shape, tuple):
        return [shape]
    return [point for part in shape for point in part]


def content(kind, shape, **told):
    """A record's content; told says what else than the truth it tells: box, m, n, places."""
    if shape is None:
        return struct.pack("<I", 0)
    if isinstance(shape, tuple):
        return struct.pack("<I2d", kind, *shape)
    points = all_points(shape)
    places = list(itertools.accumulate(map(len, shape), initial=0))[:-1]
    data = struct.pack("<I4d", kind, *told.get("box", box(points)))
    data += struct.pack("<2I", told.get("m", len(shape)), told.get("n", len(points)))
    data += b"".join(struct.pack("<I", place) for place in told.get("places", places))
    return data + b"".join(struct.pack("<2d", *point) for point in points)


def record(number, data):
    return struct.pack(">2I", number, len(data) // 2) + data


def file_with(kind, whole_box, records):
    """A file with a right head but for the box that's told, around any bytes of records."""
    head = struct.pack(">I20xI", 9994, (100 + len(records)) // 2)
    return head + struct.pack("<2I4d32x", 1000, kind, *whole_box) + records


def file_of_contents(kind, whole_box, contents):
    return file_with(kind, whole_box, b"".join(record(k + 1, data) for k, data in enumerate(contents)))


def file_of(kind, shapes):
    points = [point for shape in shapes for point in all_points(shape)]
    return file_of_contents(kind, box(points), [content(kind, shape) for shape in shapes])


def patched(data, place, new):
    return data[:place] + new + data[place + len(new):]


def low(number):
    return struct.pack("<I", number)


def high(number):
    return struct.pack(">I", number)


def double(value):
    return struct.pack("<d", value)


def bits(value):
    return struct.unpack("<Q", double(value))[0]


def rectangle(left, low_y, right, high_y):
    """A ring to the right."""
    return [(left, low_y), (left, high_y), (right, high_y), (right, low_y), (left, low_y)]


def opening(data):
    return [1, len(data), *data]


def about(k):
    return [3, k]


def box_call(k):
    return [4, k]


def part_call(k, part, start, most):
    return [5, k, part, start, most]


def at_call(x, y, most=65536):
    return [6, bits(x), bits(y), most]


def area_call(k):
    return [7, k]


def ask(*calls):
    """Each call's answer as a list, behind a begin whose answer is left out."""
    told = answers([number for call in (BEGIN, *calls) for number in call])
    parted = []
    while told:
        parted.append(told[1:1 + told[0]])
        told = told[1 + told[0]:]
    return parted[1:]
