"""Promise 7: at."""

import itertools
import math
import unittest

from tests.helper import (
    BEGIN, BEYOND, FARTHEST, GREATEST, INFINITY, LEAST, NAN, NO_FILE, REFUSED, SQUARE, TINY, TRIANGLE, ask, at_call,
    bits, file_of, opening, rectangle,
)

# A ring to the right around another: a hole, whichever way that goes.
OUTER = rectangle(0.0, 0.0, 8.0, 8.0)
INNER = rectangle(2.0, 2.0, 6.0, 6.0)

NO_COORDINATES = [
    0x7FF0000000000000, 0xFFF0000000000000, 0x7FF0000000000001, 0x7FF8000000000000, 0xFFF8000000000000, 2 ** 64 - 1,
    0x8000000000000000, 0x4270000000000001, 0xC270000000000001, 0x7FEFFFFFFFFFFFFF, 0xFFEFFFFFFFFFFFFF,
]
COORDINATES = [
    0, 1, 0x8000000000000001, 0x000FFFFFFFFFFFFF, 0x0010000000000000, 0x4270000000000000, 0xC270000000000000,
    0x426FFFFFFFFFFFFF,
]


class At(unittest.TestCase):
    def told(self, kind, shapes, *calls):
        return ask(opening(file_of(kind, shapes)), *calls)[1:]

    def assert_held(self, kind, shape, held, free):
        told = self.told(kind, [shape], *[at_call(x, y) for x, y in held + free])
        for point, answer in zip(held + free, told, strict=True):
            self.assertEqual(answer, [1, 0] if point in held else [0], point)

    # Whichever way the parts go round, and whichever of them comes first, the same points are held.
    def assert_held_by_area(self, rings, held, free):
        self.assert_held(5, rings, held, free)
        self.assert_held(5, [ring[::-1] for ring in rings], held, free)
        self.assert_held(5, rings[::-1], held, free)
        self.assert_held(5, [rings[0][::-1]] + rings[1:], held, free)


def around(x, y):
    """The points that lie by one last bit to the left, to the right, below and above."""
    return [
        (math.nextafter(x, -INFINITY), y), (math.nextafter(x, INFINITY), y),
        (x, math.nextafter(y, -INFINITY)), (x, math.nextafter(y, INFINITY)),
    ]


class Points(At):
    def test_that_point_alone(self):
        self.assert_held(1, (1.5, -2.0), [(1.5, -2.0)], around(1.5, -2.0) + [(-2.0, 1.5), (0.0, 0.0), (1.5, 2.0)])

    def test_0(self):
        self.assert_held(1, (0.0, 0.0), [(0.0, 0.0)], around(0.0, 0.0))

    def test_several(self):
        shapes = [(1.0, 2.0), (2.0, 1.0), None, (1.0, 2.0), (1.0, 3.0), (1.0, 2.0)]
        told = self.told(1, shapes, at_call(1.0, 2.0), at_call(2.0, 1.0), at_call(0.0, 0.0), at_call(1.0, 3.0))
        self.assertEqual(told, [[3, 0, 3, 5], [1, 1], [0], [1, 4]])


class Lines(At):
    def test_corners(self):
        self.assert_held(3, [TRIANGLE[:3]], TRIANGLE[:3], [])

    def test_level(self):
        held = [(1.0, 2.0), (3.0, 2.0), (5.0, 2.0)]
        free = around(3.0, 2.0)[2:] + [around(1.0, 2.0)[0], around(5.0, 2.0)[1], (0.0, 2.0), (6.0, 2.0)]
        self.assert_held(3, [[(1.0, 2.0), (5.0, 2.0)]], held, free)
        self.assert_held(3, [[(5.0, 2.0), (1.0, 2.0)]], held, free)

    def test_upright(self):
        held = [(2.0, 1.0), (2.0, 3.0), (2.0, 5.0)]
        free = around(2.0, 3.0)[:2] + [around(2.0, 1.0)[2], around(2.0, 5.0)[3], (2.0, 0.0), (2.0, 6.0)]
        self.assert_held(3, [[(2.0, 1.0), (2.0, 5.0)]], held, free)
        self.assert_held(3, [[(2.0, 5.0), (2.0, 1.0)]], held, free)

    def test_slanting(self):
        held = [(0.0, 0.0), (0.75, 0.25), (1.5, 0.5), (3.0, 1.0)]
        free = around(1.5, 0.5) + around(3.0, 1.0) + around(0.0, 0.0) + [(-3.0, -1.0), (6.0, 2.0), (1.5, -0.5)]
        self.assert_held(3, [[(0.0, 0.0), (3.0, 1.0)]], held, free)
        self.assert_held(3, [[(3.0, 1.0), (0.0, 0.0)]], held, free)

    def test_slanting_down(self):
        held = [(0.0, 3.0), (0.5, 1.5), (1.0, 0.0)]
        free = around(0.5, 1.5) + [(-1.0, 6.0), (2.0, -3.0), (0.5, -1.5), (0.0, 0.0), (1.0, 3.0)]
        self.assert_held(3, [[(0.0, 3.0), (1.0, 0.0)]], held, free)
        self.assert_held(3, [[(1.0, 0.0), (0.0, 3.0)]], held, free)

    def test_doubles_that_are_not_what_they_look_like(self):
        # The double 0.3 is not three times the double 0.1.
        self.assert_held(3, [[(0.0, 0.0), (1.0, 3.0)]], [], [(0.1, 0.3)])
        self.assert_held(3, [[(0.0, 0.0), (1.0, 4.0)]], [(0.1, 0.4)], [])

    def test_from_point_to_next(self):
        shape = [[(0.0, 0.0), (2.0, 0.0), (2.0, 2.0)], [(4.0, 2.0), (4.0, 4.0)]]
        held = [(1.0, 0.0), (2.0, 1.0), (4.0, 3.0)]
        # Between the parts, and back from a part's end to its beginning, there's no way.
        self.assert_held(3, shape, held, [(3.0, 2.0), (1.0, 1.0), (2.0, 3.0), (2.0, 2.5)])

    def test_a_way_that_stays_where_it_is(self):
        self.assert_held(3, [[(1.0, 1.0), (1.0, 1.0)]], [(1.0, 1.0)], around(1.0, 1.0) + [(0.0, 0.0), (2.0, 1.0)])

    def test_within_is_not_held(self):
        self.assert_held(3, [TRIANGLE], TRIANGLE + [(0.0, 2.0), (1.5, 2.0)], [(1.0, 1.0), (0.5, 2.0)])

    def test_shapes_with_nothing_among_them(self):
        shapes = [None, [TRIANGLE], None, [SQUARE], [SQUARE, TRIANGLE]]
        told = self.told(3, shapes, at_call(0.0, 1.0), at_call(10.0, 11.0), at_call(11.0, 11.0))
        self.assertEqual(told, [[2, 1, 4], [2, 3, 4], [0]])


class Areas(At):
    def test_rim(self):
        held = TRIANGLE + [(0.0, 2.0), (1.5, 0.0), (1.5, 2.0), (0.75, 3.0)]
        free = [around(0.0, 2.0)[0], around(1.5, 0.0)[2], around(1.5, 2.0)[1], around(1.5, 2.0)[3]]
        self.assert_held_by_area([TRIANGLE], held, free + [(0.0, 5.0), (4.0, 0.0), (-1.0, 0.0)])

    def test_within(self):
        held = [(1.0, 1.0), around(0.0, 2.0)[1], around(1.5, 0.0)[3], around(1.5, 2.0)[0], around(1.5, 2.0)[2]]
        self.assert_held_by_area([TRIANGLE], held, [(2.0, 3.0), (-1.0, 1.0), (4.0, 1.0), (1.0, -1.0), (1.0, 5.0)])

    def test_hole(self):
        held = [(1.0, 4.0), (7.0, 4.0), (4.0, 1.0), (4.0, 7.0), (1.0, 2.0), (1.0, 6.0), (7.0, 2.0), (7.0, 6.0)]
        rim = INNER + [(4.0, 2.0), (4.0, 6.0), (2.0, 4.0), (6.0, 4.0)]
        beside = [around(2.0, 4.0)[0], around(6.0, 4.0)[1], around(4.0, 2.0)[2], around(4.0, 6.0)[3]]
        within = [around(2.0, 4.0)[1], around(6.0, 4.0)[0], around(4.0, 2.0)[3], around(4.0, 6.0)[2], (4.0, 4.0)]
        self.assert_held_by_area([OUTER, INNER], held + rim + beside, within + [(-1.0, 4.0), (9.0, 2.0), (-1.0, 6.0)])

    def test_land_within_a_hole(self):
        land = rectangle(3.0, 3.0, 5.0, 5.0)
        self.assert_held_by_area([OUTER, INNER, land], [(4.0, 4.0), (1.0, 4.0), (3.0, 4.0)], [(2.5, 4.0), (5.5, 3.0)])

    def test_rings_over_one_another(self):
        rings = [rectangle(0.0, 0.0, 4.0, 4.0), rectangle(2.0, 2.0, 6.0, 6.0)]
        held = [(1.0, 1.0), (5.0, 5.0), (1.0, 3.0), (5.0, 3.0), (2.0, 3.0), (3.0, 2.0), (4.0, 3.0), (3.0, 4.0)]
        self.assert_held_by_area(rings, held, [(3.0, 3.0), (5.0, 1.0), (1.0, 5.0)])

    def test_a_ring_twice_and_three_times(self):
        self.assert_held_by_area([SQUARE, SQUARE], [(10.0, 11.0), (12.0, 12.0)], [(11.0, 11.0), (9.0, 11.0)])
        self.assert_held_by_area([SQUARE] * 3, [(10.0, 11.0), (11.0, 11.0)], [(9.0, 11.0), (9.0, 10.0), (9.0, 12.0)])

    def test_rings_beside_one_another(self):
        rings = [rectangle(0.0, 0.0, 2.0, 2.0), rectangle(4.0, 0.0, 6.0, 2.0)]
        self.assert_held_by_area(rings, [(1.0, 1.0), (5.0, 1.0), (4.0, 1.0)], [(3.0, 1.0), (-1.0, 1.0), (7.0, 1.0)])

    def test_no_way_from_ring_to_ring(self):
        rings = [rectangle(0.0, 0.0, 2.0, 2.0), rectangle(4.0, 4.0, 6.0, 6.0)]
        self.assert_held_by_area(rings, [], [(3.0, 3.0), (2.5, 2.5), (3.0, 5.0)])

    def test_ring_that_crosses_itself(self):
        bow = [(0.0, 0.0), (4.0, 4.0), (4.0, 0.0), (0.0, 8.0), (0.0, 0.0)]
        star = [(0.0, 0.0), (4.0, 8.0), (8.0, 0.0), (0.0, 5.0), (8.0, 5.0), (0.0, 0.0)]
        self.assert_held_by_area([bow], [(1.0, 2.0), (3.5, 2.0)], [(2.0, 1.0), (3.0, 7.0)])
        # In the middle the star has gone round twice.
        self.assert_held_by_area([star], [(4.0, 7.0), (1.5, 1.5), (6.5, 1.5)], [(4.0, 4.0), (4.0, 1.0)])

    def test_points_that_come_twice(self):
        ring = [(0.0, 0.0), (0.0, 0.0), (0.0, 4.0), (0.0, 4.0), (3.0, 0.0), (3.0, 0.0), (0.0, 0.0)]
        self.assert_held_by_area([ring], TRIANGLE + [(1.0, 1.0), (0.5, 0.0)], [(-1.0, 0.0), (-1.0, 4.0), (2.0, 3.0)])

    def test_shapes_that_share_a_rim(self):
        shapes = [[rectangle(0.0, 0.0, 2.0, 2.0)], None, [rectangle(2.0, 0.0, 4.0, 2.0)], [OUTER, INNER]]
        calls = [at_call(1.0, 1.0), at_call(2.0, 1.0), at_call(3.0, 1.0), at_call(2.0, 2.0), at_call(5.0, 5.0)]
        told = self.told(5, shapes, *calls)
        self.assertEqual(told, [[2, 0, 3], [3, 0, 2, 3], [2, 2, 3], [3, 0, 2, 3], [0]])


class LevelWithCorners(At):
    def test_corners_that_a_ring_goes_through(self):
        diamond = [(0.0, 0.0), (2.0, 2.0), (4.0, 0.0), (2.0, -2.0), (0.0, 0.0)]
        self.assert_held_by_area([diamond], [(1.0, 0.0), (0.0, 0.0), (4.0, 0.0)], [(-1.0, 0.0), (5.0, 0.0)])

    def test_peaks(self):
        diamond = [(0.0, 0.0), (2.0, 2.0), (4.0, 0.0), (2.0, -2.0), (0.0, 0.0)]
        self.assert_held_by_area([diamond], [(2.0, 2.0), (2.0, -2.0)], [(0.0, 2.0), (0.0, -2.0), (3.0, 2.0)])

    def test_notches(self):
        down = [(0.0, 0.0), (0.0, 4.0), (2.0, 2.0), (4.0, 4.0), (4.0, 0.0), (0.0, 0.0)]
        up = [(0.0, 0.0), (0.0, 4.0), (4.0, 4.0), (4.0, 0.0), (2.0, 2.0), (0.0, 0.0)]
        held = [(1.0, 2.0), (2.0, 2.0), (3.0, 2.0)]
        self.assert_held_by_area([down], held + [(2.0, 1.0)], [(-1.0, 2.0), (5.0, 2.0), (2.0, 3.0)])
        self.assert_held_by_area([up], held + [(2.0, 3.0)], [(-1.0, 2.0), (5.0, 2.0), (2.0, 1.0)])

    def test_level_ways(self):
        step_down = [(0.0, 0.0), (0.0, 4.0), (2.0, 4.0), (2.0, 2.0), (4.0, 2.0), (4.0, 0.0), (0.0, 0.0)]
        step_up = [(0.0, 0.0), (0.0, 4.0), (4.0, 4.0), (4.0, 2.0), (2.0, 2.0), (2.0, 0.0), (0.0, 0.0)]
        held = [(1.0, 2.0), (3.0, 2.0), (0.0, 0.0), (1.0, 0.0), (1.0, 4.0)]
        free = [(-1.0, 2.0), (5.0, 2.0), (-1.0, 0.0), (-1.0, 4.0), (5.0, 0.0), (5.0, 4.0)]
        self.assert_held_by_area([step_down], held + [(4.0, 2.0)], free + [(3.0, 3.0), (3.0, 4.0)])
        self.assert_held_by_area([step_up], held + [(4.0, 2.0)], free + [(3.0, 1.0), (3.0, 0.0)])

    def test_level_floors_and_roofs(self):
        # A bay from above, then one from below, both down or up to 2.
        bay = [(0.0, 0.0), (0.0, 4.0), (2.0, 4.0), (2.0, 2.0), (4.0, 2.0), (4.0, 4.0), (6.0, 4.0), (6.0, 0.0)]
        bay.append(bay[0])
        arch = [(x, 4.0 - y) for x, y in bay]
        held = [(1.0, 2.0), (3.0, 2.0), (5.0, 2.0)]
        free = [(-1.0, 2.0), (7.0, 2.0), (-1.0, 0.0), (-1.0, 4.0)]
        self.assert_held_by_area([bay], held + [(3.0, 1.0)], free + [(3.0, 3.0), (3.0, 4.0)])
        self.assert_held_by_area([arch], held + [(3.0, 3.0)], free + [(3.0, 1.0), (3.0, 0.0)])

    # A point lies in or on a triangle just if it's to the same side of all its ways, or in line.
    def test_all_triangles_of_a_grid(self):
        grid = [(float(x), float(y)) for x, y in itertools.product(range(3), repeat=2)]
        asked = [(x / 2, y / 2) for x, y in itertools.product(range(-1, 6), repeat=2)]
        calls = [at_call(x, y) for x, y in asked]
        for corners in itertools.permutations(grid, 3):
            ways = list(zip(corners, corners[1:] + corners[:1]))
            if side(corners[2], ways[0]) != 0:
                told = self.told(5, [[[*corners, corners[0]]]], *calls)
                sides = [{side(point, way) for way in ways} for point in asked]
                self.assertEqual(told, [[0] if {-1, 1} <= sides_of_one else [1, 0] for sides_of_one in sides], corners)


def side(point, way):
    (ax, ay), (bx, by) = way
    turn = (bx - ax) * (point[1] - ay) - (by - ay) * (point[0] - ax)
    return (turn > 0) - (turn < 0)


class NothingRounded(At):
    def test_lines_from_end_to_end(self):
        shape = [[(-FARTHEST, -FARTHEST), (FARTHEST, FARTHEST)]]
        held = [(0.0, 0.0), (TINY, TINY), (-TINY, -TINY), (FARTHEST, FARTHEST), (-FARTHEST, -FARTHEST), (0.1, 0.1)]
        free = [(TINY, 0.0), (0.0, TINY), (TINY, -TINY), (2 * TINY, TINY), (FARTHEST, -FARTHEST)]
        beside = around(0.1, 0.1) + [around(FARTHEST, FARTHEST)[0], around(FARTHEST, FARTHEST)[2]]
        self.assert_held(3, shape, held, free + beside)

    def test_lines_from_the_least_to_the_farthest(self):
        shape = [[(TINY, 0.0), (FARTHEST, FARTHEST)]]
        self.assert_held(3, shape, [(TINY, 0.0), (FARTHEST, FARTHEST)], [(1.0, 1.0), (TINY, TINY), (2 * TINY, TINY)])

    def test_area_with_a_rim_from_end_to_end(self):
        ring = [(-FARTHEST, -FARTHEST), (FARTHEST, FARTHEST), (FARTHEST, -FARTHEST), (-FARTHEST, -FARTHEST)]
        held = [(0.0, 0.0), (TINY, 0.0), (0.0, -TINY), (TINY, TINY), (2 * TINY, TINY), (FARTHEST, TINY)]
        self.assert_held_by_area([ring], held, [(-TINY, 0.0), (0.0, TINY), (TINY, 2 * TINY), (-FARTHEST, -1.0)])

    def test_area_with_a_corner_off_by_the_least(self):
        ring = [(0.0, TINY), (FARTHEST, FARTHEST), (FARTHEST, 0.0), (0.0, TINY)]
        self.assert_held_by_area([ring], [(1.0, 1.0), (0.0, TINY), (FARTHEST, 1.0)], [(0.0, 0.0), (TINY, 0.0)])
        ring = [(TINY, 0.0), (FARTHEST, FARTHEST), (FARTHEST, 0.0), (TINY, 0.0)]
        self.assert_held_by_area([ring], [(TINY, 0.0), (2 * TINY, TINY), (1.0, 0.5)], [(1.0, 1.0), (0.0, 0.0)])

    def test_least_area(self):
        ring = [(0.0, 0.0), (0.0, TINY), (TINY, 0.0), (0.0, 0.0)]
        free = [(TINY, TINY), (2 * TINY, 0.0), (-TINY, 0.0), (-TINY, TINY), (0.0, -TINY)]
        self.assert_held_by_area([ring], ring, free)


class Most(At):
    def test_the_first_most(self):
        shapes = [(1.0, 1.0), (2.0, 2.0), (1.0, 1.0), None, (1.0, 1.0), (1.0, 1.0)]
        for most in (1, 2, 3, 4, 5, 65535, 65536):
            with self.subTest(most=most):
                self.assertEqual(self.told(1, shapes, at_call(1.0, 1.0, most)), [[4, *[0, 2, 4, 5][:most]]])

    def test_outside(self):
        for most in (LEAST, -1, 0, 65537, GREATEST):
            with self.subTest(most=most):
                told = self.told(5, [[TRIANGLE]] * 3, at_call(1.0, 1.0, most), at_call(9.0, 9.0, most))
                self.assertEqual(told, [[3], [0]])

    def test_many(self):
        told = self.told(1, [(1.0, 1.0)] * 500, at_call(1.0, 1.0), at_call(1.0, 1.0, 499), at_call(1.0, 1.0, 0))
        self.assertEqual(told, [[500, *range(500)], [500, *range(499)], [500]])


class Refused(At):
    def test_no_coordinates(self):
        for wrong in NO_COORDINATES:
            places = ((wrong, 0), (0, wrong), (wrong, wrong))
            calls = [[6, x, y, most] for x, y in places for most in (-1, 0, 1)]
            for shapes in ([[TRIANGLE]], [], [None]):
                with self.subTest(wrong=wrong):
                    self.assertEqual(self.told(5, shapes, *calls), [REFUSED] * 9)

    def test_as_doubles(self):
        for value in (INFINITY, -INFINITY, NAN, -0.0, BEYOND, -BEYOND):
            told = self.told(1, [(0.0, 0.0)], at_call(value, 0.0), at_call(0.0, value))
            self.assertEqual(told, [REFUSED, REFUSED])

    def test_coordinates(self):
        for x, y in itertools.product(COORDINATES, repeat=2):
            self.assertEqual(self.told(1, [(3.0, 3.0)], [6, x, y, 1]), [[0]])

    def test_no_file_ahead_of_all_else(self):
        opened = opening(file_of(1, [(0.0, 0.0)]))
        for call in ([6, 0, 0, 1], [6, bits(INFINITY), 0, 1], [6, 0, 0x8000000000000000, 0], [6, 2 ** 64 - 1, 1, -1]):
            self.assertEqual(ask(call, opened, BEGIN, call), [NO_FILE, [0], [0], NO_FILE])

    def test_no_shapes(self):
        for kind in (1, 3, 5):
            for shapes in ([], [None, None]):
                self.assertEqual(self.told(kind, shapes, at_call(0.0, 0.0), at_call(1.0, 1.0, 0)), [[0], [0]])
