"""Reading a file's bytes into shapes, and refusing what is no file."""

from landshapes.coordinates import box_of, goes_round, is_coordinate
from landshapes.fields import all_zero, doubles, whole_high, whole_low

NOTHING = 0
POINT = 1
LINES = 3
AREA = 5

LONGEST_FILE = 4194304
HEAD_LENGTH = 100
RECORD_HEAD_LENGTH = 8
NOTHING_LENGTH = 4
POINT_LENGTH = 20
PLACES_START = 44
MOST_PARTS = 65536
MOST_POINTS = 65536


class NotAFile(Exception):
    pass


# A shape's parts are lists of points: one part with one point for a point, no parts for nothing.
# So all kinds are counted and walked alike.
class Shape:
    def __init__(self, kind, parts):
        self.kind = kind
        self.parts = parts

    def all_points(self):
        together = []
        for part in self.parts:
            together.extend(part)
        return together


def require(holds):
    if not holds:
        raise NotAFile()


def read_file(data):
    require(HEAD_LENGTH <= len(data) <= LONGEST_FILE)
    require_head(data)
    shapes = read_records(data, whole_low(data, 32))
    require_head_box(data, shapes)
    return shapes


def require_head(data):
    require(whole_high(data, 0) == 9994)
    require(all_zero(data, 4, 24))
    require(2 * whole_high(data, 24) == len(data))
    require(whole_low(data, 28) == 1000)
    require(whole_low(data, 32) in (POINT, LINES, AREA))
    require(all_zero(data, 68, HEAD_LENGTH))


# Boxes are compared by bits: no coordinate is the 0 with a sign, so no true box holds it.
def require_head_box(data, shapes):
    points = []
    for shape in shapes:
        points.extend(shape.all_points())
    require(doubles(data, 36, 4) == box_of(points))


def read_records(data, kind):
    shapes = []
    place = HEAD_LENGTH
    while place < len(data):
        content = read_content(data, place, len(shapes) + 1)
        shapes.append(read_shape(content, kind))
        place += RECORD_HEAD_LENGTH + len(content)
    return shapes


def read_content(data, place, number):
    start = place + RECORD_HEAD_LENGTH
    require(start <= len(data))
    require(whole_high(data, place) == number)
    end = start + 2 * whole_high(data, place + 4)
    require(end <= len(data))
    return data[start:end]


def read_shape(content, kind):
    require(len(content) >= NOTHING_LENGTH)
    told = whole_low(content, 0)
    if told == NOTHING:
        require(len(content) == NOTHING_LENGTH)
        return Shape(NOTHING, [])
    require(told == kind)
    if kind == POINT:
        require(len(content) == POINT_LENGTH)
        return Shape(POINT, [read_points(content, 4, 1)])
    return Shape(kind, read_parts(content, kind))


def read_parts(content, kind):
    require(len(content) >= PLACES_START)
    part_count = whole_low(content, 36)
    point_count = whole_low(content, 40)
    require(1 <= part_count <= MOST_PARTS)
    require(1 <= point_count <= MOST_POINTS)
    points_start = PLACES_START + 4 * part_count
    require(len(content) == points_start + 16 * point_count)
    points = read_points(content, points_start, point_count)
    require(doubles(content, 4, 4) == box_of(points))
    parts = cut(points, [whole_low(content, PLACES_START + 4 * k) for k in range(part_count)])
    for part in parts:
        require(is_part(part, kind))
    return parts


def read_points(content, place, many):
    numbers = doubles(content, place, 2 * many)
    for bits in numbers:
        require(is_coordinate(bits))
    return [(numbers[2 * k], numbers[2 * k + 1]) for k in range(many)]


def cut(points, places):
    require(places[0] == 0)
    parts = []
    # The last part ends where the points do: rising up to there, each place is less than how many points there are.
    for start, end in zip(places, places[1:] + [len(points)]):
        require(start < end)
        parts.append(points[start:end])
    return parts


def is_part(part, kind):
    if kind == LINES:
        return len(part) >= 2
    return len(part) >= 4 and part[0] == part[-1] and goes_round(part) != 0
