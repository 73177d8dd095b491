"""Promise 1, the singles: taken a thousand times, rounded to the nearest, and within their range."""

import math
import struct
import unittest
from fractions import Fraction

from solidlayers.solid import check
from tests.helper import EMPTY, REFUSED, raw_file, single

PLACES = range(9)
SIGN = 1 << 31
ONE_THOUSAND = 0x447A0000
# The singles next to 1000 lie 1/16384 apart: eight steps are 0.488 thousandths, nine are 0.549.
STEPS_THAT_ROUND_DOWN = 8


def exact_bits(number):
    """The bits of a single that is just this number."""
    bits = struct.unpack("<I", struct.pack("<f", number))[0]
    assert struct.unpack("<f", struct.pack("<I", bits))[0] == number
    return bits


def file_with(bits, place):
    """One triangle whose other corners are 0 on that place's axis, and that counts whatever bits are."""
    triangle = [single(1 + number // 3) for number in PLACES]
    for number in range(place % 3, 9, 3):
        triangle[number] = single(0)
    triangle[place] = bits
    return raw_file([triangle])


def taken(bits, place):
    """The coordinate that check takes a single at that place for, or None if it refuses the file."""
    answer = check(file_with(bits, place))
    if answer == REFUSED:
        return None
    least, greatest = answer[4 + 2 * (place % 3):6 + 2 * (place % 3)]
    assert answer[:4] == [0, 1, 3, 1] and 0 in (least, greatest), answer
    return least + greatest


def meant(bits):
    """The same by Python's own singles and exact fractions, whose round is to the even one of two."""
    number = struct.unpack("<f", struct.pack("<I", bits))[0]
    if math.isnan(number) or math.isinf(number):
        return None
    thousandths = round(1000 * Fraction(number))
    return thousandths if abs(thousandths) <= 1000000 else None


class Singles(unittest.TestCase):
    def assert_everywhere(self, bits, coordinate):
        for place in PLACES:
            self.assertEqual(taken(bits, place), coordinate, (hex(bits), place))

    def assert_either_sign(self, bits, coordinate):
        self.assert_everywhere(bits, coordinate)
        self.assert_everywhere(bits | SIGN, None if coordinate is None else -coordinate)

    def test_whole_thousandths(self):
        for thousandths in [1, 2, 9, 10, 999, 1000, 1001, 12345, 499999, 500000, 999999]:
            self.assert_either_sign(single(thousandths), thousandths)

    def test_rounded_down_and_up(self):
        for number, coordinate in [(0.0014, 1), (0.0016, 2), (0.0004, 0), (0.0006, 1), (2.7182, 2718), (2.7187, 2719)]:
            self.assert_either_sign(single(1000 * number), coordinate)

    def test_of_two_as_near_the_even_one(self):
        ties = [(1, 62), (3, 188), (5, 312), (7, 438), (9, 562), (1601, 100062), (15999, 999938)]
        for sixteenths, coordinate in ties:
            self.assert_either_sign(exact_bits(sixteenths / 16), coordinate)

    def test_beside_two_as_near(self):
        for sixteenths, below in [(1, 62), (3, 187), (5, 312), (7, 437), (15999, 999937)]:
            bits = exact_bits(sixteenths / 16)
            self.assert_either_sign(bits - 1, below)
            self.assert_either_sign(bits + 1, below + 1)

    def test_all_that_are_as_near_to_two(self):
        for sixteenths in range(1, 16000, 2):
            bits = exact_bits(sixteenths / 16)
            even = 125 * sixteenths // 2
            even += even % 2
            self.assertEqual(taken(bits, sixteenths % 9), even)
            self.assertEqual(taken(bits | SIGN, sixteenths % 9), -even)

    def test_both_zeros(self):
        self.assert_everywhere(0, 0)
        self.assert_everywhere(SIGN, 0)

    def test_both_zeros_are_one(self):
        corners = [[0, 0, 0], [SIGN, SIGN, SIGN], [single(5), single(6), single(7)]]
        self.assertEqual(check(raw_file([corners[0] + corners[1] + corners[2]])), EMPTY)

    def test_very_small(self):
        for bits in [1, 2, 3, 0x400000, 0x7FFFFF, 0x800000, 0x800001, 0xFFFFFF, 0x1000000, 0x2F800000]:
            self.assert_either_sign(bits, 0)

    def test_the_first_that_is_more_than_half_a_thousandth(self):
        # No single is just 0.0005: the two beside it are one step apart.
        bits = single(0.5)
        below = bits if meant(bits) == 0 else bits - 1
        self.assert_either_sign(below, 0)
        self.assert_either_sign(below + 1, 1)

    def test_the_ends_themselves(self):
        self.assert_either_sign(ONE_THOUSAND, 1000000)
        self.assert_either_sign(ONE_THOUSAND - 1, 1000000)

    def test_the_first_beyond_the_ends(self):
        self.assert_either_sign(ONE_THOUSAND + STEPS_THAT_ROUND_DOWN, 1000000)
        self.assert_either_sign(ONE_THOUSAND + STEPS_THAT_ROUND_DOWN + 1, None)

    def test_far_beyond_the_ends(self):
        for number in [1000.001, 1001, 1024, 4096, 1e6, 8388607, 8388608, 16777216, 1e9, 4294967296, 1e30]:
            self.assert_either_sign(single(1000 * number), None)
        self.assert_either_sign(0x7F7FFFFF, None)

    def test_endless(self):
        self.assert_either_sign(0x7F800000, None)

    def test_no_number(self):
        for bits in [0x7F800001, 0x7FBFFFFF, 0x7FC00000, 0x7FC00001, 0x7FFFFFFF]:
            self.assert_either_sign(bits, None)

    def test_every_exponent(self):
        for exponent in range(256):
            for fraction in [0, 1, 0x2AAAAA, 0x400000, 0x555555, 0x7A1200, 0x7FFFFF]:
                for bits in [exponent << 23 | fraction, SIGN | exponent << 23 | fraction]:
                    self.assertEqual(taken(bits, (exponent + fraction) % 9), meant(bits), hex(bits))

    def test_singles_spread_over_the_range(self):
        for bits in range(0x3A000000, 0x447B0000, 65537 * 13):
            self.assertEqual(taken(bits, bits % 9), meant(bits), hex(bits))
            self.assertEqual(taken(bits | SIGN, bits % 9), meant(bits | SIGN), hex(bits))

    def test_a_wrong_single_in_any_triangle(self):
        good = [single(number) for number in range(9)]
        for wrong in [ONE_THOUSAND + STEPS_THAT_ROUND_DOWN + 1, 0x7F800000, 0xFF800000, 0x7FC00000]:
            for number in range(4):
                triangles = [list(good) for k in range(4)]
                triangles[number][number * 2] = wrong
                self.assertEqual(check(raw_file(triangles)), REFUSED)


if __name__ == "__main__":
    unittest.main()
