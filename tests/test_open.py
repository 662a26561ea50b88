"""Promise 2: what open takes, and that a refused open changes nothing."""

import unittest

from landshapes.reading import NotAFile, read_file
from tests.helper import (
    COUNT, FARTHEST, REFUSED, SQUARE, TRIANGLE, about, ask, file_of, high, opening, patched,
)

TINY = 5e-324
EPSILON = 2.0 ** -52


class Taken(unittest.TestCase):
    def assert_taken(self, kind, shapes):
        self.assertEqual(ask(opening(file_of(kind, shapes)), COUNT), [[0], [len(shapes)]])

    def test_no_records(self):
        for kind in (1, 3, 5):
            self.assert_taken(kind, [])

    def test_records_that_are_nothing(self):
        for kind in (1, 3, 5):
            self.assert_taken(kind, [None])
            self.assert_taken(kind, [None, None, None])

    def test_several_shapes(self):
        self.assert_taken(1, [(1.5, -2.0), None, (0.0, 0.0), (-7.0, 1e-300)])
        self.assert_taken(3, [[[(0.0, 1.0), (2.0, 3.0)]], None, [[(-5.0, 1.0), (2.0, 9.0), (0.5, 0.5)]]])
        self.assert_taken(5, [None, [TRIANGLE], [SQUARE], None])

    def test_several_parts(self):
        self.assert_taken(3, [[[(0.0, 1.0), (2.0, 3.0)], [(4.0, 4.0), (4.0, 4.0)], SQUARE]])
        self.assert_taken(5, [[TRIANGLE, SQUARE, TRIANGLE[::-1]]])

    def test_many_parts(self):
        self.assert_taken(3, [[[(float(k), 0.0), (1.0, 1.0)] for k in range(400)]])
        self.assert_taken(5, [[TRIANGLE] * 200])

    def test_lines_may_stand_still(self):
        self.assert_taken(3, [[[(1.0, 1.0), (1.0, 1.0)]]])

    def test_coordinates_at_their_edges(self):
        for x in (FARTHEST, -FARTHEST, TINY, -TINY, 0.0, 2.0 ** -1022, 0.1):
            self.assert_taken(1, [(x, 1.0)])
            self.assert_taken(1, [(1.0, x)])
            self.assert_taken(3, [[[(x, x), (1.0, 1.0)]]])

    def test_boxes_of_numbers_below_0(self):
        self.assert_taken(1, [(-1.0, -1.0), (-2.0, -0.5), (-1.5, -3.0)])
        self.assert_taken(3, [[[(-1.0, -TINY), (-2.0, TINY)]], [[(-9.0, 1.0), (-0.5, -7.0)]]])

    def test_rings_either_way(self):
        self.assert_taken(5, [[TRIANGLE]])
        self.assert_taken(5, [[TRIANGLE[::-1]]])

    def test_rings_that_go_round_next_to_nothing(self):
        self.assert_taken(5, [[[(0.0, 0.0), (TINY, 0.0), (0.0, TINY), (0.0, 0.0)]]])
        thin = [(0.0, 0.0), (1.0 + EPSILON, 1.0), (1.0 + 2 * EPSILON, 1.0 + EPSILON), (0.0, 0.0)]
        self.assert_taken(5, [[thin]])
        wide = [(-FARTHEST, -FARTHEST), (FARTHEST, FARTHEST), (0.0, TINY), (-FARTHEST, -FARTHEST)]
        self.assert_taken(5, [[wide]])

    def test_ring_that_crosses_itself(self):
        crossed = [(0.0, 0.0), (2.0, 2.0), (2.0, 0.0), (0.0, 1.0), (0.0, 0.0)]
        self.assert_taken(5, [[crossed]])

    def test_a_file_of_the_interface_s_greatest_length(self):
        many = (15900 - 100) // 28
        self.assert_taken(1, [(float(k), -float(k * k)) for k in range(1, many + 1)])
        steps = [(float(k), float(k % 7)) for k in range((15900 - 100 - 8 - 48) // 16)]
        self.assert_taken(3, [[steps]])
        comb = [(float(k), float(k % 2)) for k in range(980)] + [(0.0, -1.0), (0.0, 0.0)]
        self.assert_taken(5, [[comb]])


class Kept(unittest.TestCase):
    def test_a_refused_open_changes_nothing(self):
        first = file_of(5, [[TRIANGLE, SQUARE], None])
        wrong = patched(first, 0, high(9995))
        calls = [COUNT, about(0), about(1), about(2)]
        before = ask(opening(first), *calls)
        self.assertEqual(before, [[0], [2], [5, 2, 9], [0, 0, 0], REFUSED])
        for data in (b"", wrong, first[:-2], first + b"\0"):
            after = ask(opening(first), opening(data), *calls)
            self.assertEqual(after, [[0], REFUSED] + before[1:])

    def test_a_refusal_at_the_last_record_changes_nothing(self):
        wrong = file_of(1, [(1.0, 1.0), (2.0, 2.0)])
        wrong = patched(wrong, len(wrong) - 28, high(3))
        self.assertEqual(ask(opening(file_of(1, [None])), opening(wrong), COUNT), [[0], REFUSED, [1]])

    def test_another_file_takes_the_place_of_the_first(self):
        first, second = file_of(1, [(1.0, 1.0)] * 3), file_of(3, [])
        self.assertEqual(ask(opening(first), COUNT, opening(second), COUNT), [[0], [3], [0], [0]])


class Limits(unittest.TestCase):
    """Beyond what one list of calls may hold, so the reader is asked itself."""

    def assert_no_file(self, data):
        with self.assertRaises(NotAFile):
            read_file(data)

    def test_greatest_length_of_a_file(self):
        fitting = (4194304 - 100) // 12
        data = file_of(1, [None] * fitting)
        self.assertEqual(len(data), 4194304)
        self.assertEqual(len(read_file(list(data))), fitting)
        self.assert_no_file(list(file_of(1, [None] * (fitting + 1))))

    def test_greatest_number_of_points(self):
        points = [(float(k), 1.0) for k in range(65537)]
        self.assertEqual(len(read_file(list(file_of(3, [[points[:65536]]])))[0].all_points()), 65536)
        self.assert_no_file(list(file_of(3, [[points]])))

    def test_as_many_parts_as_there_may_be_points_for(self):
        # Each has two points at least: a shape with more than 65536 parts has too many points too.
        data = file_of(3, [[TRIANGLE[:2]] * 32768])
        self.assertEqual(len(read_file(list(data))[0].parts), 32768)
