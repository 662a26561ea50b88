"""The interface: the form of what's handed in and given back."""

import unittest

from landshapes.shapes import answers
from tests.helper import TRIANGLE, area_call, at_call, bits, box_call, file_of, opening, part_call


class Form(unittest.TestCase):
    def setUp(self):
        area = file_of(5, [[TRIANGLE], None])
        self.calls = [0, 2, *opening(area), 2, 3, 0, 3, 1, 3, 2, *opening(b"\0"), 2, 0, 2, *opening(area), 3, 0]
        self.told = [1, 0, 1, -4, 1, 0, 1, 2, 3, 5, 1, 4, 3, 0, 0, 0, 1, -1, 1, -1, 1, 2, 1, 0, 1, -4, 1, 0, 3, 5, 1, 4]
        self.calls += box_call(0) + box_call(1) + part_call(0, 0, 1, 2) + part_call(1, 0, 0, 1) + part_call(0, 0, 9, 1)
        self.told += [5, 0, 0, 0, bits(3.0), bits(4.0), 1, -2, 5, 2, 0, bits(4.0), bits(3.0), 0, 1, -1, 1, 0]
        self.calls += at_call(1.0, 1.0) + at_call(9.0, 1.0) + at_call(-0.0, 1.0) + area_call(0) + area_call(1) + [7, 2]
        self.told += [2, 1, 0, 1, 0, 1, -1, 2, 0, bits(6.0), 2, 0, 0, 1, -1]

    def test_no_calls(self):
        self.assertEqual(answers([]), [])

    def test_begin_alone(self):
        self.assertEqual(answers([0]), [1, 0])

    def test_how_many_then_these(self):
        self.assertEqual(answers(self.calls), self.told)

    def test_whole_numbers_in_a_list(self):
        told = answers(self.calls)
        self.assertIs(type(told), list)
        self.assertEqual({type(number) for number in told}, {int})

    def test_what_is_handed_in_is_unchanged(self):
        before = list(self.calls)
        answers(self.calls)
        self.assertEqual(self.calls, before)

    def test_nothing_is_kept(self):
        self.assertEqual(answers(self.calls), self.told)
        self.assertEqual(answers([0, 2, 3, 0, 7, 0]), [1, 0, 1, -4, 1, -4, 1, -4])
        self.assertEqual(answers(self.calls), self.told)

    def test_what_is_given_back_is_new_each_time(self):
        answers(self.calls).clear()
        self.assertEqual(answers(self.calls), self.told)
