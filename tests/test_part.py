"""Promise 6: part."""

import unittest

from tests.helper import (
    BEGIN, FARTHEST, GREATEST, LEAST, NO_FILE, REFUSED, SQUARE, TINY, TRIANGLE, ask, bits, file_of, opening, part_call,
)

LINES = [[(1.0, 2.0), (3.0, 4.0)], [(-1.0, TINY), (0.0, -FARTHEST), (5.0, 6.0), (5.0, 6.0)], [(7.0, 8.0), (9.0, 10.0)]]
ALL = 65536
OUTSIDE = (LEAST, -1, 0, 65537, GREATEST)


def told_points(points):
    return [len(points)] + [bits(value) for point in points for value in point]


class Part(unittest.TestCase):
    def told(self, kind, shapes, *calls):
        return ask(opening(file_of(kind, shapes)), *calls)[1:]

    def assert_parts(self, kind, shapes):
        for k, shape in enumerate(shapes):
            told = self.told(kind, shapes, *[part_call(k, number, 0, ALL) for number in range(len(shape))])
            self.assertEqual(told, [told_points(points) for points in shape])

    def test_point(self):
        shapes = [(1.5, -2.0), (0.0, TINY)]
        told = self.told(1, shapes, part_call(0, 0, 0, ALL), part_call(1, 0, 0, 1))
        self.assertEqual(told, [[1, 0x3FF8000000000000, 0xC000000000000000], [1, 0, 1]])

    def test_lines(self):
        self.assert_parts(3, [LINES, LINES[:1], LINES[1:]])

    def test_area(self):
        self.assert_parts(5, [[TRIANGLE, SQUARE], [SQUARE], [SQUARE, TRIANGLE, SQUARE]])

    def test_start(self):
        for start in (0, 1, 2, 3, 4, 5, 65536, GREATEST):
            with self.subTest(start=start):
                told = self.told(3, [LINES], part_call(0, 1, start, ALL))
                self.assertEqual(told, [told_points(LINES[1][start:])])

    def test_start_of_a_point(self):
        told = self.told(1, [(1.0, 2.0)], *[part_call(0, 0, start, ALL) for start in (0, 1, 2, GREATEST)])
        self.assertEqual(told, [told_points([(1.0, 2.0)]), [0], [0], [0]])

    def test_most(self):
        for most in (1, 2, 3, 4, 5, 1000, 65535, 65536):
            with self.subTest(most=most):
                told = self.told(3, [LINES], part_call(0, 1, 0, most), part_call(0, 1, 2, most))
                self.assertEqual(told, [told_points(LINES[1][:most]), told_points(LINES[1][2:2 + most])])

    def test_most_outside(self):
        for most in OUTSIDE:
            with self.subTest(most=most):
                told = self.told(3, [LINES], part_call(0, 1, 0, most), part_call(0, 0, 1, most))
                self.assertEqual(told, [[0], [0]])
                self.assertEqual(self.told(1, [(1.0, 2.0)], part_call(0, 0, 0, most)), [[0]])

    def test_many_points(self):
        points = [(float(k), -0.5) for k in range(900)]
        told = self.told(3, [[points]], part_call(0, 0, 0, ALL), part_call(0, 0, 899, 7), part_call(0, 0, 100, 700))
        self.assertEqual(told, [told_points(points), told_points(points[899:]), told_points(points[100:800])])

    def test_no_such_shape(self):
        for kind, shapes in ((1, []), (1, [(1.0, 2.0)]), (3, [LINES, LINES]), (5, [[TRIANGLE]])):
            for k in (LEAST, -2, -1, len(shapes), len(shapes) + 1, GREATEST):
                with self.subTest(kind=kind, k=k):
                    self.assertEqual(self.told(kind, shapes, part_call(k, 0, 0, ALL)), [REFUSED])

    def test_no_such_part(self):
        for kind, shape, many in ((1, (1.0, 2.0), 1), (3, LINES, 3), (5, [TRIANGLE, SQUARE], 2), (5, None, 0)):
            for number in (LEAST, -2, -1, many, many + 1, GREATEST):
                with self.subTest(kind=kind, number=number):
                    told = self.told(kind, [shape, shape], part_call(0, number, 0, ALL), part_call(1, number, 0, 0))
                    self.assertEqual(told, [REFUSED, REFUSED])

    def test_nothing_has_no_part(self):
        for kind in (1, 3, 5):
            self.assertEqual(self.told(kind, [None], part_call(0, 0, 0, ALL)), [REFUSED])

    def test_start_below_0(self):
        for start in (-1, -2, -4, LEAST):
            for most in (1, ALL) + OUTSIDE:
                with self.subTest(start=start, most=most):
                    self.assertEqual(self.told(3, [LINES], part_call(0, 1, start, most)), [REFUSED])

    def test_refused_whatever_most_and_start(self):
        for most in OUTSIDE:
            told = self.told(3, [LINES], part_call(1, 0, 0, most), part_call(0, 3, 9, most), part_call(0, -1, 0, most))
            self.assertEqual(told, [REFUSED] * 3)

    def test_no_file(self):
        opened = opening(file_of(3, [LINES]))
        for call in (part_call(0, 0, 0, 1), part_call(-1, 0, 0, 1), part_call(0, 9, -1, 0)):
            self.assertEqual(ask(call, opened, BEGIN, call), [NO_FILE, [0], [0], NO_FILE])
