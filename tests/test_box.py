"""Promise 5: box."""

import unittest

from tests.helper import (
    BEGIN, FARTHEST, GREATEST, LEAST, NO_FILE, OF_NOTHING, REFUSED, SQUARE, TINY, TRIANGLE, ask, bits, box_call,
    file_of, opening,
)


class Box(unittest.TestCase):
    def assert_boxes(self, kind, shapes, expected):
        told = ask(opening(file_of(kind, shapes)), *[box_call(k) for k in range(len(shapes))])
        self.assertEqual(told[1:], [[0] + [bits(value) for value in box] for box in expected])

    def test_points(self):
        self.assert_boxes(1, [(1.5, -2.5), (0.0, 7.0)], [(1.5, -2.5, 1.5, -2.5), (0.0, 7.0, 0.0, 7.0)])

    def test_by_bits(self):
        told = ask(opening(file_of(1, [(1.5, -2.0)])), box_call(0))
        one, other = 0x3FF8000000000000, 0xC000000000000000
        self.assertEqual(told[1], [0, one, other, one, other])

    def test_lines_with_several_parts(self):
        shape = [[(3.0, 1.0), (2.0, 5.0)], [(-7.5, 2.0), (0.0, 0.25), (1.0, 1.0)], [(4.0, -9.0), (2.0, 2.0)]]
        self.assert_boxes(3, [shape], [(-7.5, -9.0, 4.0, 5.0)])

    def test_area_with_several_parts(self):
        self.assert_boxes(5, [[TRIANGLE, SQUARE], [SQUARE]], [(0.0, 0.0, 12.0, 12.0), (10.0, 10.0, 12.0, 12.0)])

    def test_each_shape_its_own(self):
        shapes = [[[(0.0, 0.0), (1.0, 1.0)]], [[(5.0, 5.0), (6.0, 7.0)]], [[(-1.0, 2.0), (-3.0, -4.0)]]]
        self.assert_boxes(3, shapes, [(0.0, 0.0, 1.0, 1.0), (5.0, 5.0, 6.0, 7.0), (-3.0, -4.0, -1.0, 2.0)])

    def test_below_0_the_greater_bits_are_less(self):
        self.assert_boxes(3, [[[(-2.0, -TINY), (-1.0, -5.0)]]], [(-2.0, -5.0, -1.0, -TINY)])

    def test_smallest_and_largest(self):
        shape = [[(-FARTHEST, TINY), (TINY, FARTHEST), (-TINY, 0.0)]]
        self.assert_boxes(3, [shape], [(-FARTHEST, 0.0, TINY, FARTHEST)])

    def test_no_such_shape(self):
        for kind, shapes in ((1, [(1.0, 2.0)]), (3, []), (5, [[TRIANGLE], [SQUARE], None])):
            for k in (LEAST, -len(shapes), -1, len(shapes), len(shapes) + 1, GREATEST):
                if k < 0 or k >= len(shapes):
                    with self.subTest(kind=kind, k=k):
                        self.assertEqual(ask(opening(file_of(kind, shapes)), box_call(k)), [[0], REFUSED])

    def test_nothing(self):
        for kind, shape in ((1, (1.0, 2.0)), (3, [TRIANGLE]), (5, [TRIANGLE])):
            told = ask(opening(file_of(kind, [None, shape, None])), box_call(0), box_call(2), box_call(3))
            self.assertEqual(told, [[0], OF_NOTHING, OF_NOTHING, REFUSED])

    def test_no_file(self):
        opened = opening(file_of(1, [None]))
        for k in (-1, 0, 1):
            self.assertEqual(ask(box_call(k), opened, BEGIN, box_call(k)), [NO_FILE, [0], [0], NO_FILE])
