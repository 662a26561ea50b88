"""Promise 2: -1 of what's no file, each field wrong by itself."""

import unittest

from tests.helper import (
    BEYOND, FARTHEST, INFINITY, NAN, REFUSED, SQUARE, TRIANGLE, all_points, ask, box, content, double, file_of,
    file_of_contents, file_with, high, low, opening, patched, record,
)

WAY = [(1.0, 2.0), (4.0, -3.0)]
OTHER_WAY = [(6.0, 7.0), (8.0, 9.0)]
NO_COORDINATES = [INFINITY, -INFINITY, NAN, -NAN, BEYOND, -BEYOND, 1e300, -1e300, -0.0]


class Refusing(unittest.TestCase):
    def assert_refused(self, data):
        self.assertEqual(ask(opening(data)), [REFUSED])

    def assert_taken(self, data):
        self.assertEqual(ask(opening(data)), [[0]])

    def assert_each_refused(self, data, place, wrong):
        self.assert_taken(data)
        for new in wrong:
            with self.subTest(place=place, new=new):
                self.assertNotEqual(patched(data, place, new), data)
                self.assert_refused(patched(data, place, new))


class Head(Refusing):
    def setUp(self):
        self.files = [
            file_of(1, []), file_of(5, [None]), file_of(1, [(1.0, 2.0)]), file_of(3, [[WAY]]), file_of(5, [[TRIANGLE]]),
        ]

    def test_empty(self):
        self.assert_refused(b"")

    def test_cut_short(self):
        for data in self.files[:1] + self.files[2:]:
            for length in range(len(data)):
                self.assert_refused(data[:length])
                self.assert_refused(patched(data[:length], 24, high(length // 2))[:length])

    def test_first_number(self):
        for data in self.files:
            self.assert_each_refused(data, 0, [high(9993), high(9995), high(0), low(9994), high(9994 + 2 ** 31)])

    def test_twenty_bytes_of_0(self):
        for place in range(4, 24):
            self.assert_each_refused(self.files[2], place, [b"\1", b"\x80", b"\xff"])

    def test_half_the_length(self):
        for data in self.files:
            half = len(data) // 2
            wrong = [high(half - 1), high(half + 1), high(2 * half), high(0), low(half), high(half + 2 ** 31)]
            self.assert_each_refused(data, 24, wrong)

    def test_odd_length(self):
        for data in self.files:
            self.assert_refused(data + b"\0")
            self.assert_refused(patched(data + b"\0", 24, high(len(data) // 2 + 1)))

    def test_1000(self):
        for data in self.files:
            self.assert_each_refused(data, 28, [low(999), low(1001), low(0), high(1000), low(1000 + 2 ** 31)])

    def test_kind(self):
        empty = self.files[0]
        others = [0, 2, 4, 6, 8, 11, 13, 15, 18, 21, 23, 25, 28, 31, 2 ** 32 - 1, 2 ** 31 + 1, 257]
        self.assert_each_refused(empty, 32, [low(kind) for kind in others] + [high(1), high(3), high(5)])
        for data, kind in zip(self.files[2:], (1, 3, 5)):
            self.assert_each_refused(data, 32, [low(other) for other in (0, 1, 3, 5) if other != kind])

    def test_each_double_of_the_box(self):
        for data in self.files:
            for k in range(4):
                wrong = [-1.0, 5e-324, 17.0, -0.0, NAN, INFINITY]
                self.assert_each_refused(data, 36 + 8 * k, [double(value) for value in wrong])

    def test_box_of_all_shapes_and_not_of_some(self):
        shapes = [(1.0, 8.0), (2.0, -3.0), None, (-4.0, 5.0)]
        contents = [content(1, shape) for shape in shapes]
        self.assert_taken(file_of_contents(1, (-4.0, -3.0, 2.0, 8.0), contents))
        for some in (shapes[:2], shapes[1:2], shapes[3:], []):
            points = [point for shape in some for point in all_points(shape)]
            self.assert_refused(file_of_contents(1, box(points), contents))

    def test_box_in_another_order(self):
        contents = [content(1, (1.0, 8.0)), content(1, (2.0, 9.0))]
        self.assert_taken(file_of_contents(1, (1.0, 8.0, 2.0, 9.0), contents))
        for other in ((1.0, 2.0, 8.0, 9.0), (2.0, 9.0, 1.0, 8.0), (8.0, 1.0, 9.0, 2.0)):
            self.assert_refused(file_of_contents(1, other, contents))

    def test_thirty_two_bytes_of_0(self):
        for place in range(68, 100):
            self.assert_each_refused(self.files[2], place, [b"\1", b"\x80", b"\xff"])

    def test_each_bit_where_each_is_bound(self):
        for data in (self.files[0], self.files[2], self.files[3]):
            for place in range(len(data)):
                for bit in range(8):
                    # The kind of a file without records is free among 1, 3 and 5.
                    new = bytes([data[place] ^ 1 << bit])
                    if data is self.files[0] and place == 32 and new in (b"\3", b"\5"):
                        continue
                    self.assert_refused(patched(data, place, new))


class Records(Refusing):
    def test_numbers(self):
        data = file_of(1, [None, (1.0, 2.0), None])
        wrong = [0, 4, 2 ** 31 + 1, 2 ** 32 - 1]
        self.assert_each_refused(data, 100, [high(n) for n in wrong + [2, 3]] + [low(1)])
        self.assert_each_refused(data, 112, [high(n) for n in wrong + [1, 3]] + [low(2)])
        self.assert_each_refused(data, 140, [high(n) for n in wrong + [1, 2]] + [low(3)])

    def test_half_the_content_s_length(self):
        for kind, shape in ((1, None), (1, (1.0, 2.0)), (3, [WAY]), (5, [SQUARE])):
            data = file_of(kind, [shape, shape])
            half = len(content(kind, shape)) // 2
            wrong = [0, 1, half - 1, half + 1, 2 * half, 2 ** 31 + half, 2 ** 32 - 1]
            self.assert_each_refused(data, 104, [high(n) for n in wrong] + [low(half)])
            self.assert_each_refused(data, 100 + 8 + 2 * half + 4, [high(n) for n in wrong] + [low(half)])

    def test_kind(self):
        shapes = {1: (1.0, 2.0), 3: [WAY], 5: [TRIANGLE]}
        for kind, shape in shapes.items():
            others = [low(n) for n in (0, 1, 2, 3, 5, 8, 11, 13, 15, 256 + kind, 2 ** 31 + kind) if n != kind]
            self.assert_each_refused(file_of(kind, [shape]), 108, others + [high(kind)])
            self.assert_each_refused(file_of(kind, [None]), 108, others[1:] + [low(kind)])
            for other in shapes:
                if other != kind:
                    wrong = file_of_contents(kind, box(all_points(shapes[other])), [content(other, shapes[other])])
                    self.assert_refused(wrong)

    def test_lines_in_the_form_of_an_area_among_areas(self):
        contents = [content(5, [TRIANGLE]), content(3, [TRIANGLE])]
        self.assert_refused(file_of_contents(5, box(TRIANGLE), contents))
        contents = [content(3, [TRIANGLE]), content(5, [TRIANGLE])]
        self.assert_refused(file_of_contents(3, box(TRIANGLE), contents))

    def test_content_too_short_or_too_long(self):
        for kind, shape in ((1, None), (3, None), (5, None), (1, (1.0, 2.0)), (3, [WAY, OTHER_WAY]), (5, [SQUARE])):
            whole, around = content(kind, shape), box(all_points(shape))
            self.assert_taken(file_of_contents(kind, around, [whole]))
            for length in range(0, len(whole), 2):
                self.assert_refused(file_of_contents(kind, around, [whole[:length]]))
            for more in (2, 4, 8, 16, 20):
                self.assert_refused(file_of_contents(kind, around, [whole + bytes(more)]))

    def test_record_cut_off(self):
        whole = record(1, content(1, None))
        for length in range(2, len(whole), 2):
            self.assert_refused(file_with(1, (0.0,) * 4, whole[:length]))
            second = record(2, content(1, None))
            self.assert_refused(file_with(1, (0.0,) * 4, whole + second[:length]))
        self.assert_refused(file_with(1, (0.0,) * 4, whole + bytes(2)))
        self.assert_refused(file_with(1, (0.0,) * 4, whole + bytes(12)))

    def test_coordinates_of_a_point(self):
        for value in NO_COORDINATES:
            for point in ((value, 1.0), (1.0, value)):
                with self.subTest(point=point):
                    self.assert_refused(file_of_contents(1, point + point, [content(1, point)]))

    def test_the_edge_of_coordinates(self):
        for value in (FARTHEST, -FARTHEST):
            self.assert_taken(file_of(1, [(value, value)]))


class Parts(Refusing):
    def assert_told_refused(self, kind, shape, **told):
        with self.subTest(kind=kind, told=told):
            self.assert_taken(file_of(kind, [shape]))
            data = content(kind, shape, **told)
            self.assertNotEqual(data, content(kind, shape))
            self.assert_refused(file_of_contents(kind, box(all_points(shape)), [data]))

    def assert_shape_refused(self, kind, shape):
        with self.subTest(kind=kind, shape=shape):
            self.assert_refused(file_of(kind, [shape]))

    def test_each_double_of_the_box(self):
        for kind, shape in ((3, [WAY, OTHER_WAY]), (5, [SQUARE]), (5, [TRIANGLE])):
            true = box(all_points(shape))
            for k in range(4):
                for value in (true[k] - 1.0, true[k] + 1.0, 1e-9, -0.0, NAN, INFINITY):
                    self.assert_told_refused(kind, shape, box=true[:k] + (value,) + true[k + 1:])

    def test_box_of_the_shape_and_not_of_all(self):
        contents = [content(3, [WAY], box=box(WAY + OTHER_WAY)), content(3, [OTHER_WAY])]
        self.assert_refused(file_of_contents(3, box(WAY + OTHER_WAY), contents))

    def test_how_many_parts(self):
        for kind, shape in ((3, [WAY, OTHER_WAY]), (5, [TRIANGLE, SQUARE])):
            for m in (0, 1, 3, 4, 6, 65536, 65537, 2 ** 30 + 2, 2 ** 32 - 1):
                self.assert_told_refused(kind, shape, m=m)
            self.assert_told_refused(kind, shape, m=0, places=[])

    def test_how_many_points(self):
        for kind, shape in ((3, [WAY, OTHER_WAY]), (5, [TRIANGLE, SQUARE])):
            n = len(all_points(shape))
            for wrong in (0, 1, n - 1, n + 1, 65536, 65537, 2 ** 28 + n, 2 ** 32 - 1):
                self.assert_told_refused(kind, shape, n=wrong)

    def test_no_points_at_all(self):
        for kind in (3, 5):
            self.assert_shape_refused(kind, [])
            self.assert_shape_refused(kind, [[]])

    def test_places_of_lines(self):
        shape = [WAY, OTHER_WAY]
        large = ([0, 2 ** 31], [0, 2 ** 32 - 1], [2 ** 32 - 4, 2])
        for places in ([1, 2], [2, 0], [0, 0], [0, 4], [0, 5], [2, 2], *large):
            self.assert_told_refused(3, shape, places=places)
        three = [WAY, OTHER_WAY, WAY]
        for places in ([0, 4, 2], [0, 2, 2], [0, 4, 4], [0, 2, 6], [0, 0, 4], [2, 2, 4]):
            self.assert_told_refused(3, three, places=places)
        self.assert_told_refused(3, [WAY], places=[1])
        self.assert_told_refused(3, [WAY], places=[2])

    def test_first_part_not_at_the_first_point(self):
        self.assert_told_refused(3, [WAY + OTHER_WAY], places=[1])
        self.assert_told_refused(3, [WAY + WAY, OTHER_WAY], places=[1, 4])
        data = content(5, [[(1.0, 1.0)] + TRIANGLE], places=[1])
        self.assert_refused(file_of_contents(5, box(TRIANGLE), [data]))

    def test_places_of_an_area(self):
        for places in ([0, 3], [0, 5], [0, 0], [0, 9], [4, 0], [1, 4], [0, 2 ** 32 - 5]):
            self.assert_told_refused(5, [TRIANGLE, SQUARE], places=places)

    def test_coordinates(self):
        for value in NO_COORDINATES:
            for point in ((value, 1.0), (1.0, value)):
                true = [(-1.0, -1.0), (2.0, 2.0), (3.0, -1.0), (-1.0, -1.0)]
                shape = [true[:2] + [point] + true[2:]]
                for kind in (3, 5):
                    # Whether told boxes hold the value or leave it out, it's no coordinate.
                    for around in (box(shape[0]), box(true)):
                        with self.subTest(kind=kind, point=point, around=around):
                            data = content(kind, shape, box=around)
                            self.assert_refused(file_of_contents(kind, around, [data]))

    def test_part_of_lines_with_one_point(self):
        for shape in ([WAY[:1]], [WAY[:1], OTHER_WAY], [OTHER_WAY, WAY[:1]], [WAY, WAY[:1], OTHER_WAY]):
            self.assert_shape_refused(3, shape)

    def test_ring_with_fewer_than_four_points(self):
        for ring in (TRIANGLE[:1], WAY + WAY[:1], TRIANGLE[:3], [(1.0, 1.0)] * 2):
            self.assert_shape_refused(5, [ring])
            self.assert_shape_refused(5, [SQUARE, ring])
            self.assert_shape_refused(5, [ring, SQUARE])

    def test_ring_that_is_not_closed(self):
        for last in ((5e-324, 0.0), (0.0, 5e-324), (0.0, 4.0), (3.0, 0.0), (1.0, 1.0)):
            self.assert_shape_refused(5, [TRIANGLE[:3] + [last]])
            self.assert_shape_refused(5, [SQUARE, TRIANGLE + [last], SQUARE])
        self.assert_shape_refused(5, [TRIANGLE[:2], TRIANGLE[2:]])

    def test_ring_that_goes_round_0(self):
        eight = [(0.0, 0.0), (1.0, 1.0), (1.0, 0.0), (0.0, 1.0), (0.0, 0.0)]
        there_and_back = WAY + WAY[::-1]
        still = [(0.1, 0.7)] * 4
        # From the greatest doubles without a leading one to the least with one.
        steep = [(0.0, 0.0), (2.0 ** -1023, 2.0 ** -1022), (2.0 ** -1022, 2.0 ** -1021), (0.0, 0.0)]
        for ring in (eight, there_and_back, still, steep):
            self.assert_shape_refused(5, [ring])
            self.assert_shape_refused(5, [SQUARE, ring])

    def test_ring_that_goes_round_0_only_without_rounding(self):
        x, y, u, v = 2.0 ** 39 + 1, 2.0 ** 38 + 12345, 2.0 ** 30 + 98765, 2.0 ** 31 + 12345
        ring = [(x + k * u, y + k * v) for k in (0, 1, 5, 0)]
        # Not by sum: newer Pythons round less there.
        rounded = 0.0
        for a, b in zip(ring, ring[1:]):
            rounded += a[0] * b[1] - b[0] * a[1]
        self.assertNotEqual(rounded, 0.0)
        self.assert_shape_refused(5, [ring])
