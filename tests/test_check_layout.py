"""Promise 1, the file: how long it is, how many triangles it tells, what isn't looked at."""

import struct
import unittest

from solidlayers.solid import check
from tests.helper import EMPTY, REFUSED, bits_of, raw_file, solid_file, tetrahedron


class Layout(unittest.TestCase):
    def test_fewer_bytes_than_84(self):
        for length in range(84):
            self.assertEqual(check([0] * length), REFUSED, length)

    def test_no_triangle(self):
        self.assertEqual(check([0] * 84), EMPTY)
        self.assertEqual(check([255] * 80 + [0] * 4), EMPTY)

    def test_more_bytes_than_the_count_asks_for(self):
        for more in [1, 2, 49, 50, 51, 100]:
            self.assertEqual(check([0] * (84 + more)), REFUSED)
            self.assertEqual(check(solid_file(tetrahedron()) + [0] * more), REFUSED)

    def test_fewer_bytes_than_the_count_asks_for(self):
        whole = solid_file(tetrahedron())
        for length in range(len(whole)):
            self.assertEqual(check(whole[:length]), REFUSED, length)

    def test_a_count_one_off(self):
        triangles = [bits_of(triangle) for triangle in tetrahedron()]
        self.assertEqual(check(raw_file(triangles, count=4))[:4], [1, 4, 4, 1])
        for count in [0, 1, 3, 5, 8]:
            self.assertEqual(check(raw_file(triangles, count=count)), REFUSED)

    def test_each_byte_of_the_count(self):
        triangles = [bits_of(triangle) for triangle in tetrahedron()]
        for count in [4 << 8, 4 << 16, 4 << 24, 4 + (1 << 8), 4 + (1 << 16), 4 + (1 << 24), 4 + (1 << 31), 2 ** 32 - 1]:
            self.assertEqual(check(raw_file(triangles, count=count)), REFUSED)

    def test_the_counts_lowest_byte_comes_first(self):
        for count in [255, 256, 257, 600]:
            file = [0] * 80 + list(struct.pack("<I", count)) + [0] * (50 * count)
            self.assertEqual(check(file), EMPTY)
            for number in range(count):
                file[84 + 50 * number + 12:84 + 50 * number + 48] = struct.pack("<9f", *range(9))
            self.assertEqual(check(file), [0, count, 3, 1, 0, 6000, 1000, 7000, 2000, 8000])

    def test_20000_triangles_at_most(self):
        for count, answer in [(20000, EMPTY), (20001, REFUSED)]:
            file = [0] * 80 + list(struct.pack("<I", count)) + [0] * (50 * count)
            self.assertEqual(check(file), answer)

    def test_a_count_beyond_20000_in_a_short_file(self):
        for count in [20001, 65536, 2 ** 31, 2 ** 32 - 1]:
            self.assertEqual(check(raw_file([], count=count)), REFUSED)

    def test_what_is_not_looked_at_has_no_effect(self):
        plain = check(solid_file(tetrahedron()))
        for unread in [1, 127, 128, 255]:
            self.assertEqual(check(solid_file(tetrahedron(), unread=unread)), plain)

    def test_each_byte_that_is_not_looked_at(self):
        file = solid_file(tetrahedron())
        plain = check(file)
        unread = list(range(80))
        for start in range(84, len(file), 50):
            unread += list(range(start, start + 12)) + [start + 48, start + 49]
        for place in unread:
            for byte in [1, 255]:
                changed = list(file)
                changed[place] = byte
                self.assertEqual(check(changed), plain, place)


if __name__ == "__main__":
    unittest.main()
