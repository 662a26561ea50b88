"""Promise 8: area."""

import fractions
import itertools
import unittest

from tests.helper import (
    BEGIN, FARTHEST, GREATEST, LEAST, NO_FILE, REFUSED, SQUARE, TINY, TRIANGLE, area_call, ask, bits, file_of, opening,
    rectangle,
)

SIGN = 2 ** 63
WIDE = 2.0 ** 27


def turned(rings):
    return [ring[::-1] for ring in rings]


def of_size(width, height):
    return rectangle(0.0, 0.0, width, height)


# A right-angled triangle to the right, of half of width times height.
def corner(width, height):
    return [(0.0, 0.0), (0.0, height), (width, 0.0), (0.0, 0.0)]


def triangle_size(*corners):
    (ax, ay), (bx, by), (cx, cy) = [[fractions.Fraction(value) for value in point] for point in corners]
    return ((cx - ax) * (by - ay) - (bx - ax) * (cy - ay)) / 2


class Area(unittest.TestCase):
    def told(self, kind, shapes, *numbers):
        return ask(opening(file_of(kind, shapes)), *[area_call(k) for k in numbers])[1:]

    # Turned round, the size has the other sign and is else the same.
    def assert_bits(self, rings, expected):
        self.assertEqual(self.told(5, [rings, turned(rings)], 0, 1), [[0, expected], [0, expected | SIGN]])

    def assert_size(self, rings, expected):
        self.assert_bits(rings, bits(expected))


class Sizes(Area):
    def test_to_the_right(self):
        self.assertEqual(self.told(5, [[TRIANGLE]], 0), [[0, 0x4018000000000000]])

    def test_to_the_left(self):
        self.assertEqual(self.told(5, [[TRIANGLE[::-1]]], 0), [[0, 0xC018000000000000]])

    def test_wherever_it_lies(self):
        for x, y in itertools.product((-100.0, -1.0, 0.0, 55.5), repeat=2):
            self.assert_size([rectangle(x, y, x + 2.0, y + 3.5)], 7.0)

    def test_wherever_it_begins(self):
        ways = TRIANGLE[:-1]
        for k in range(3):
            self.assert_size([ways[k:] + ways[:k + 1]], 6.0)

    def test_several_to_the_right(self):
        self.assert_size([TRIANGLE, SQUARE, TRIANGLE], 16.0)

    def test_holes(self):
        hole = rectangle(10.5, 10.5, 11.0, 11.5)[::-1]
        other = rectangle(11.25, 11.25, 11.5, 11.5)[::-1]
        self.assert_size([SQUARE, hole], 3.5)
        self.assert_size([hole, SQUARE, other], 3.4375)

    def test_more_taken_off_than_there_is(self):
        self.assertEqual(self.told(5, [[SQUARE, TRIANGLE[::-1]]], 0), [[0, bits(-2.0)]])

    def test_0_has_no_sign(self):
        shapes = [[SQUARE, SQUARE[::-1]], [SQUARE[::-1], SQUARE], [of_size(2.0, 3.0), TRIANGLE[::-1]]]
        self.assertEqual(self.told(5, shapes, 0, 1, 2), [[0, 0]] * 3)

    def test_crossing_itself(self):
        bow = [(0.0, 0.0), (2.0, 2.0), (2.0, 0.0), (0.0, 4.0), (0.0, 0.0)]
        self.assertEqual(self.told(5, [[bow]], 0), [[0, bits(-2.0)]])

    def test_other_shapes(self):
        self.assertEqual(self.told(1, [(3.0, 4.0), None, (-1.0, 2.0)], 0, 1, 2), [[0, 0]] * 3)
        self.assertEqual(self.told(3, [[TRIANGLE], [SQUARE[::-1], TRIANGLE], None], 0, 1, 2), [[0, 0]] * 3)
        self.assertEqual(self.told(5, [None, [TRIANGLE]], 0, 1), [[0, 0], [0, bits(6.0)]])

    def test_largest(self):
        self.assert_size([rectangle(-FARTHEST, -FARTHEST, FARTHEST, FARTHEST)], 2.0 ** 82)
        self.assert_size([rectangle(-FARTHEST, -FARTHEST, FARTHEST, FARTHEST)] * 3, 3 * 2.0 ** 82)


class Rounding(Area):
    # From 2^54 to 2^55 every fourth whole number is a double.
    def test_nearer_to_the_lower(self):
        self.assert_size([of_size(WIDE + 1, WIDE + 1)], 2.0 ** 54 + 2.0 ** 28)

    def test_nearer_to_the_upper(self):
        self.assert_size([of_size(WIDE + 1, WIDE + 3)], 2.0 ** 54 + 2.0 ** 29 + 4)

    def test_halfway_with_the_lower_even(self):
        self.assert_size([of_size(WIDE + 1, WIDE + 2)], 2.0 ** 54 + 3 * WIDE)

    def test_halfway_with_the_upper_even(self):
        self.assert_size([of_size(WIDE + 3, WIDE + 2)], 2.0 ** 54 + 5 * WIDE + 8)

    def test_beside_halfway_by_the_least_there_is(self):
        least = corner(TINY, TINY)
        lower, upper = of_size(WIDE + 1, WIDE + 2), of_size(WIDE + 3, WIDE + 2)
        self.assert_size([lower, least], 2.0 ** 54 + 3 * WIDE + 4)
        self.assert_size([lower, least[::-1]], 2.0 ** 54 + 3 * WIDE)
        self.assert_size([upper, least], 2.0 ** 54 + 5 * WIDE + 8)
        self.assert_size([upper, least[::-1]], 2.0 ** 54 + 5 * WIDE + 4)

    def test_up_to_a_power_of_two(self):
        self.assert_size([of_size(2.0 ** 27 - 1, 2.0 ** 27 + 1)], 2.0 ** 54)
        self.assert_size([of_size(2.0 ** 28 - 1, 2.0 ** 28 + 1)], 2.0 ** 56)
        self.assert_size([of_size(2.0 ** 40 - 2.0 ** -13, 2.0 ** 40), of_size(2.0 ** 13, 2.0 ** 13)], 2.0 ** 80)

    def test_one_rounding_over_all_rings(self):
        # By itself each small ring would be lost beside the large one.
        self.assert_size([of_size(WIDE, WIDE), of_size(1.0, 1.0), of_size(1.0, 1.0), of_size(1.0, 1.0)], 2.0 ** 54 + 4)

    def test_what_remains_of_large_ones(self):
        large = of_size(FARTHEST, FARTHEST)
        self.assert_size([large, of_size(2.0 ** -500, 3.0), large[::-1]], 3 * 2.0 ** -500)

    def test_as_fractions_say(self):
        values = (0.1, -0.3, 1e-7, 123456.789, 2.0 ** 39 + 0.1)
        for a, b, c in itertools.combinations(itertools.permutations(values, 2), 3):
            size = triangle_size(a, b, c)
            if size != 0:
                self.assertEqual(self.told(5, [[[a, b, c, a]]], 0), [[0, bits(float(size))]])


class Small(Area):
    def test_least_there_is_rounds_to_0(self):
        self.assert_bits([corner(TINY, TINY)], 0)

    def test_half_of_the_smallest_double(self):
        half = corner(2.0 ** -537, 2.0 ** -537)
        least = corner(TINY, TINY)
        self.assert_bits([half], 0)
        self.assert_bits([half, least[::-1]], 0)
        self.assert_bits([half, least], 1)

    def test_smallest_double(self):
        self.assert_bits([of_size(2.0 ** -537, 2.0 ** -537)], 1)

    def test_without_the_leading_bit(self):
        self.assert_bits([of_size(5 * 2.0 ** -537, 2.0 ** -537)], 5)
        self.assert_bits([of_size((2.0 ** 26 + 1) * 2.0 ** -537, (2.0 ** 25 - 1) * 2.0 ** -537)], 2 ** 51 - 2 ** 25 - 1)

    def test_halfway_without_the_leading_bit(self):
        self.assert_bits([corner(3 * 2.0 ** -537, 2.0 ** -537)], 2)
        self.assert_bits([corner(5 * 2.0 ** -537, 2.0 ** -537)], 2)
        self.assert_bits([corner(7 * 2.0 ** -537, 2.0 ** -537)], 4)

    def test_up_to_the_leading_bit(self):
        whole = of_size(2.0 ** -511, 2.0 ** -511)
        smallest = of_size(2.0 ** -537, 2.0 ** -537)
        half = corner(2.0 ** -537, 2.0 ** -537)
        self.assert_bits([whole], 2 ** 52)
        self.assert_bits([whole, smallest[::-1]], 2 ** 52 - 1)
        self.assert_bits([whole, half[::-1]], 2 ** 52)
        self.assert_bits([whole, smallest], 2 ** 52 + 1)

    def test_from_the_least_leading_bit_to_the_next(self):
        whole = of_size(2.0 ** -510, 2.0 ** -511)
        smallest = of_size(2.0 ** -537, 2.0 ** -537)
        self.assert_bits([whole], 2 * 2 ** 52)
        self.assert_bits([whole, smallest[::-1]], 2 * 2 ** 52 - 1)
        self.assert_bits([whole, corner(2.0 ** -537, 2.0 ** -537)[::-1]], 2 * 2 ** 52)
        self.assert_bits([whole, smallest], 2 * 2 ** 52)
        self.assert_bits([whole, smallest, smallest, smallest], 2 * 2 ** 52 + 2)


class Refused(Area):
    def test_no_such_shape(self):
        for kind, shapes in ((1, []), (1, [(1.0, 2.0)]), (3, [[TRIANGLE]] * 2), (5, [[TRIANGLE], None])):
            for k in (LEAST, -2, -1, len(shapes), len(shapes) + 1, GREATEST):
                with self.subTest(kind=kind, k=k):
                    self.assertEqual(self.told(kind, shapes, k), [REFUSED])

    def test_no_file(self):
        opened = opening(file_of(5, [[TRIANGLE]]))
        for k in (-1, 0, 1):
            self.assertEqual(ask(area_call(k), opened, BEGIN, area_call(k)), [NO_FILE, [0], [0], NO_FILE])
