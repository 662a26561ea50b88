"""Promises 3 and 4: count and about."""

import unittest

from tests.helper import COUNT, REFUSED, SQUARE, TRIANGLE, about, ask, file_of, opening

FAR = [-2147483648, -2, -1]


class Count(unittest.TestCase):
    def assert_count(self, kind, shapes):
        self.assertEqual(ask(opening(file_of(kind, shapes)), COUNT), [[0], [len(shapes)]])

    def test_none(self):
        for kind in (1, 3, 5):
            self.assert_count(kind, [])

    def test_one(self):
        self.assert_count(1, [(0.0, 0.0)])
        self.assert_count(3, [[TRIANGLE, SQUARE]])
        self.assert_count(5, [[TRIANGLE, SQUARE]])
        self.assert_count(5, [None])

    def test_several(self):
        self.assert_count(1, [(float(k), 1.0) for k in range(300)])
        self.assert_count(5, [[SQUARE]] * 7)

    def test_nothing_among_them(self):
        self.assert_count(1, [None, (1.0, 1.0), None, None, (2.0, 2.0), None])

    def test_asked_again(self):
        self.assertEqual(ask(opening(file_of(1, [None])), COUNT, about(0), COUNT), [[0], [1], [0, 0, 0], [1]])


class About(unittest.TestCase):
    def assert_about(self, kind, shapes, expected):
        calls = [about(k) for k in range(len(shapes))]
        outside = [about(k) for k in FAR + [len(shapes), len(shapes) + 1, 2147483647]]
        told = ask(opening(file_of(kind, shapes)), *calls, *outside)
        self.assertEqual(told, [[0]] + expected + [REFUSED] * len(outside))

    def test_no_shapes(self):
        for kind in (1, 3, 5):
            self.assert_about(kind, [], [])

    def test_points(self):
        self.assert_about(1, [(1.0, 2.0), None, (0.0, 0.0)], [[1, 1, 1], [0, 0, 0], [1, 1, 1]])

    def test_lines(self):
        ways = [TRIANGLE[:2], SQUARE, TRIANGLE[:3]]
        self.assert_about(3, [ways[:1], None, ways, ways[1:2]], [[3, 1, 2], [0, 0, 0], [3, 3, 10], [3, 1, 5]])

    def test_areas(self):
        self.assert_about(5, [[TRIANGLE], [SQUARE, TRIANGLE], None], [[5, 1, 4], [5, 2, 9], [0, 0, 0]])

    def test_nothing_in_each_kind_of_file(self):
        for kind in (1, 3, 5):
            self.assert_about(kind, [None, None], [[0, 0, 0], [0, 0, 0]])

    def test_many_points(self):
        self.assert_about(3, [[[(float(k), 0.0) for k in range(900)]]], [[3, 1, 900]])
