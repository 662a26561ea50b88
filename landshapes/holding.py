"""Whether a shape holds a point. All points here are exact: nothing is rounded."""

from landshapes.coordinates import exact_point, ways
from landshapes.reading import AREA, POINT


def holds(shape, point):
    if shape.kind == POINT:
        return exact_point(shape.parts[0][0]) == point
    crossed = 0
    for part in shape.parts:
        for start, end in ways(part):
            if lies_on(point, start, end):
                return True
            if is_crossed(point, start, end):
                crossed += 1
    return shape.kind == AREA and crossed % 2 == 1


def lies_on(point, start, end):
    if not is_between(start[1], point[1], end[1]):
        return False
    return is_between(start[0], point[0], end[0]) and turn(point, start, end) == 0


def is_between(one, value, other):
    return one <= value <= other or other <= value <= one


# Whether the level line from the point to the right crosses the way. The lower end counts and the upper doesn't:
# so a corner that a ring goes through is crossed once, and a level way never is.
def is_crossed(point, start, end):
    if start[1] <= point[1] < end[1]:
        return turn(point, start, end) > 0
    if end[1] <= point[1] < start[1]:
        return turn(point, start, end) < 0
    return False


# Above 0 if the point lies to the left of the way, below 0 if to the right, 0 if in line with it.
def turn(point, start, end):
    along = (end[0] - start[0]) * (point[1] - start[1])
    return along - (end[1] - start[1]) * (point[0] - start[0])
