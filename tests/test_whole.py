"""The whole program: several files, refused calls among others, and many calls on a long file."""

import math
import time
import unittest

from landshapes.shapes import answers
from tests.helper import (
    BEGIN, COUNT, FARTHEST, NO_FILE, OF_NOTHING, REFUSED, SQUARE, TINY, TRIANGLE, about, area_call, ask, at_call, bits,
    box_call, file_of, opening, part_call, patched,
)

POINTS = opening(file_of(1, [(1.0, 1.0), None]))
LINES = opening(file_of(3, [[[(0.0, 0.0), (2.0, 2.0)]], [SQUARE]]))
AREAS = opening(file_of(5, [[TRIANGLE], [SQUARE], None]))
BROKEN = opening(patched(file_of(1, [(1.0, 1.0)]), 3, b"\0"))
NO_BYTES = opening(b"")

ASKED = (COUNT, about(0), box_call(0), part_call(0, 0, 0, 1), at_call(1.0, 1.0), area_call(0))
OF_POINTS = [[2], [1, 1, 1], [0] + [bits(1.0)] * 4, [1, bits(1.0), bits(1.0)], [1, 0], [0, 0]]
OF_LINES = [[2], [3, 1, 2], [0, 0, 0, bits(2.0), bits(2.0)], [1, 0, 0], [1, 0], [0, 0]]
OF_AREAS = [[3], [5, 1, 4], [0, 0, 0, bits(3.0), bits(4.0)], [1, 0, 0], [1, 0], [0, bits(6.0)]]
OF_NO_FILE = [NO_FILE] * len(ASKED)

REFUSED_CALLS = (
    BROKEN, NO_BYTES, about(3), about(-1), box_call(3), part_call(3, 0, 0, 1), part_call(0, 1, 0, 1),
    part_call(0, 0, -1, 1), at_call(-0.0, 1.0), at_call(1.0, float("inf")), area_call(-1), area_call(3),
)

# As long as a file that's handed in may be, or a little less.
LONGEST = 15900


class Files(unittest.TestCase):
    def test_each_file_in_its_turn(self):
        told = ask(POINTS, *ASKED, LINES, *ASKED, AREAS, *ASKED, POINTS, *ASKED)
        self.assertEqual(told, [[0], *OF_POINTS, [0], *OF_LINES, [0], *OF_AREAS, [0], *OF_POINTS])

    def test_begin_among_them(self):
        told = ask(*ASKED, LINES, *ASKED, BEGIN, *ASKED, AREAS, BEGIN, POINTS, *ASKED, BEGIN, BEGIN, *ASKED)
        expected = [*OF_NO_FILE, [0], *OF_LINES, [0], *OF_NO_FILE, [0], [0], [0], *OF_POINTS, [0], [0], *OF_NO_FILE]
        self.assertEqual(told, expected)

    def test_a_refused_call_changes_nothing(self):
        for call in REFUSED_CALLS:
            self.assertEqual(ask(AREAS, call, *ASKED, call, *ASKED), [[0], REFUSED, *OF_AREAS, REFUSED, *OF_AREAS])
        self.assertEqual(ask(AREAS, box_call(2), *ASKED), [[0], OF_NOTHING, *OF_AREAS])

    def test_a_refused_file_is_none(self):
        self.assertEqual(ask(BROKEN, *ASKED, NO_BYTES, *ASKED), [REFUSED, *OF_NO_FILE, REFUSED, *OF_NO_FILE])

    def test_calls_in_any_order_answer_alike(self):
        told = ask(AREAS, *ASKED, *ASKED[::-1])
        self.assertEqual(told, [[0], *OF_AREAS, *OF_AREAS[::-1]])

    def test_a_second_time_as_the_first(self):
        calls = [number for call in (BEGIN, AREAS, *ASKED, *REFUSED_CALLS, BEGIN, LINES, *ASKED) for number in call]
        before = list(calls)
        first = answers(calls)
        self.assertEqual(answers(calls), first)
        self.assertEqual(calls, before)


class ManyCalls(unittest.TestCase):
    def assert_in_good_time(self, data, call, expected):
        calls = [0, *opening(data), *call * 198]
        self.assertTrue(LONGEST - 100 < len(data) <= LONGEST)
        start = time.process_time()
        told = answers(calls)
        self.assertLess(time.process_time() - start, 20)
        # Long lists are not compared by assertEqual, which would look for long at how they differ.
        self.assertTrue(told == [1, 0, 1, 0] + [len(expected), *expected] * 198)

    # Each way of the zigzag goes from the bottom to the top or back: none can be left out.
    def test_long_ring(self):
        zigzag = [(k / 8 - 60, FARTHEST if k % 2 else TINY) for k in range(977)]
        ring = [(-60.0, -FARTHEST), *zigzag, (62.0, -FARTHEST), (-60.0, -FARTHEST)]
        data = file_of(5, [[ring]])
        # There the rim lies half of the smallest double above 2^39.
        self.assert_in_good_time(data, at_call(0.0625, 2.0 ** 39), [1, 0])
        self.assert_in_good_time(data, at_call(0.0625, math.nextafter(2.0 ** 39, FARTHEST)), [0])
        self.assert_in_good_time(data, area_call(0), [0, bits(183 * 2.0 ** 40)])
        self.assert_in_good_time(data, part_call(0, 0, 979, 65536), [1, bits(-60.0), bits(-FARTHEST)])
        self.assert_in_good_time(data, box_call(0), [0, bits(-60.0), bits(-FARTHEST), bits(62.0), bits(FARTHEST)])

    def test_many_shapes(self):
        data = file_of(5, [[TRIANGLE]] * 131)
        self.assert_in_good_time(data, COUNT, [131])
        self.assert_in_good_time(data, at_call(1.0, 1.0), [131, *range(131)])
        self.assert_in_good_time(data, area_call(130), [0, bits(6.0)])
        self.assert_in_good_time(file_of(1, [(1.0, TINY)] * 564), at_call(1.0, TINY, 1), [564, 0])
