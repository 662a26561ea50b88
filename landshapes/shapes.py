"""The calls on a file of shapes, and what they answer."""

from landshapes.coordinates import box_of, exact_point, is_coordinate
from landshapes.holding import holds
from landshapes.reading import NOTHING, NotAFile, read_file
from landshapes.sizes import size_bits

CALL_BEGIN = 0
CALL_OPEN = 1
CALL_COUNT = 2
CALL_ABOUT = 3
CALL_BOX = 4
CALL_PART = 5
CALL_AT = 6

# How many numbers stand behind each call's own. Behind CALL_OPEN it is one, which tells how many bytes follow.
NUMBERS_BEHIND = (0, 1, 0, 1, 1, 4, 3, 1)

REFUSED = -1
REFUSED_NOTHING = -2
NO_FILE = -4

MOST_TOLD = 65536


# Where there is no file, shapes is None; a file without shapes has an empty list.
class Land:
    def __init__(self):
        self.shapes = None

    def answer(self, call, numbers):
        if call == CALL_BEGIN:
            self.shapes = None
            return [0]
        if call == CALL_OPEN:
            return self.take_file(numbers)
        if self.shapes is None:
            return [NO_FILE]
        if call == CALL_COUNT:
            return [len(self.shapes)]
        if call == CALL_AT:
            return self.tell_holders(numbers[0], numbers[1], numbers[2])
        if not 0 <= numbers[0] < len(self.shapes):
            return [REFUSED]
        return answer_of_shape(self.shapes[numbers[0]], call, numbers)

    def take_file(self, data):
        try:
            shapes = read_file(data)
        except NotAFile:
            return [REFUSED]
        self.shapes = shapes
        return [0]

    def tell_holders(self, x, y, most):
        if not (is_coordinate(x) and is_coordinate(y)):
            return [REFUSED]
        point = exact_point((x, y))
        holders = [k for k, shape in enumerate(self.shapes) if holds(shape, point)]
        return [len(holders)] + first_of(holders, most)


# The calls that ask about one shape, which is there.
def answer_of_shape(shape, call, numbers):
    if call == CALL_ABOUT:
        return [shape.kind, len(shape.parts), len(shape.all_points())]
    if call == CALL_BOX:
        return tell_box(shape)
    if call == CALL_PART:
        return tell_part(shape, numbers[1], numbers[2], numbers[3])
    return [0, size_bits(shape)]


def tell_box(shape):
    if shape.kind == NOTHING:
        return [REFUSED_NOTHING]
    return [0] + box_of(shape.all_points())


def tell_part(shape, number, start, most):
    if start < 0 or not 0 <= number < len(shape.parts):
        return [REFUSED]
    points = first_of(shape.parts[number][start:], most)
    told = [len(points)]
    for point in points:
        told.extend(point)
    return told


def first_of(row, most):
    if not 1 <= most <= MOST_TOLD:
        return []
    return row[:most]


def answers(calls):
    land = Land()
    told = []
    place = 0
    while place < len(calls):
        call = calls[place]
        start = place + 1
        end = start + NUMBERS_BEHIND[call]
        if call == CALL_OPEN:
            start = end
            end = start + calls[place + 1]
        answer = land.answer(call, calls[start:end])
        told.append(len(answer))
        told.extend(answer)
        place = end
    return told
