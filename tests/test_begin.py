"""Promise 1: begin, and -4 where there's no file."""

import unittest

from tests.helper import BEGIN, COUNT, NO_FILE, REFUSED, about, ask, file_of, opening

WITHOUT_A_FILE = [
    COUNT, about(0), about(-1), [4, 0], [4, -1], [5, 0, 0, 0, 1], [5, -1, -1, -1, 0],
    [6, 0, 0, 1], [6, 2 ** 64 - 1, 2 ** 63, -1], [7, 0], [7, 2147483647],
]
FILE = file_of(1, [(1.0, 2.0)])


class Begin(unittest.TestCase):
    def test_answers_0(self):
        self.assertEqual(ask(BEGIN, BEGIN), [[0], [0]])

    def test_no_file_at_first(self):
        for call in WITHOUT_A_FILE:
            with self.subTest(call=call):
                self.assertEqual(ask(call), [NO_FILE])

    def test_calls_without_a_file_are_told_apart(self):
        self.assertEqual(ask(*WITHOUT_A_FILE), [NO_FILE] * len(WITHOUT_A_FILE))

    def test_no_file_where_there_was_one(self):
        for call in WITHOUT_A_FILE:
            with self.subTest(call=call):
                self.assertEqual(ask(opening(FILE), COUNT, BEGIN, call), [[0], [1], [0], NO_FILE])

    def test_no_file_behind_a_refused_one(self):
        for call in WITHOUT_A_FILE:
            with self.subTest(call=call):
                self.assertEqual(ask(opening(b""), call), [REFUSED, NO_FILE])

    def test_a_file_again_behind_begin(self):
        self.assertEqual(ask(opening(FILE), BEGIN, opening(FILE), COUNT), [[0], [0], [0], [1]])
