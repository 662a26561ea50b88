"""The interface: the form of what's handed in and given back."""

import unittest

from landshapes.shapes import answers
from tests.helper import TRIANGLE, file_of, opening


class Form(unittest.TestCase):
    def setUp(self):
        area = file_of(5, [[TRIANGLE], None])
        self.calls = [2, *opening(area), 2, 3, 0, 3, 1, 3, 2, *opening(b"\0"), 2, 0, 2, *opening(area), 3, 0]
        self.calls = [0] + self.calls
        self.told = [1, 0, 1, -4, 1, 0, 1, 2, 3, 5, 1, 4, 3, 0, 0, 0, 1, -1, 1, -1, 1, 2, 1, 0, 1, -4, 1, 0, 3, 5, 1, 4]

    def test_no_calls(self):
        self.assertEqual(answers([]), [])

    def test_begin_alone(self):
        self.assertEqual(answers([0]), [1, 0])

    def test_how_many_then_these(self):
        self.assertEqual(answers(self.calls), self.told)

    def test_whole_numbers_in_a_list(self):
        told = answers(self.calls)
        self.assertIs(type(told), list)
        self.assertEqual({type(number) for number in told}, {int})

    def test_what_is_handed_in_is_unchanged(self):
        before = list(self.calls)
        answers(self.calls)
        self.assertEqual(self.calls, before)

    def test_nothing_is_kept(self):
        self.assertEqual(answers(self.calls), self.told)
        self.assertEqual(answers([0, 2, 3, 0]), [1, 0, 1, -4, 1, -4])
        self.assertEqual(answers(self.calls), self.told)

    def test_what_is_given_back_is_new_each_time(self):
        answers(self.calls).clear()
        self.assertEqual(answers(self.calls), self.told)

    def test_two_hundred_calls(self):
        data = opening(file_of(1, [(1.0, 1.0)] * 500))
        told = answers([0, *data] + [2] * 98 + [3, 499] * 100)
        self.assertEqual(told, [1, 0, 1, 0] + [1, 500] * 98 + [3, 1, 1, 1] * 100)
