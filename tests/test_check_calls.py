"""Promise 1 as a call: long files, what is handed in, what is given back, nothing kept."""

import random
import time
import unittest

from solidlayers.solid import check
from tests.helper import EMPTY, REFUSED, CallRules, double_pyramid, moved, sample_files, solid_file, tetrahedron

MOST = 1198
SECONDS = 20


class LongFiles(unittest.TestCase):
    def assert_answer(self, triangles, answer):
        file = solid_file(triangles)
        self.assertTrue(59000 < len(file) <= 60000)
        start = time.perf_counter()
        self.assertEqual(check(file), answer)
        self.assertLess(time.perf_counter() - start, SECONDS)

    def test_one_closed_part(self):
        answer = [1, MOST, 601, 1, 0, 598, 0, 1196, -5000, 5000]
        triangles = double_pyramid(599)
        self.assert_answer(triangles, answer)
        self.assert_answer(triangles[::-1], answer)
        random.Random(5).shuffle(triangles)
        self.assert_answer(triangles, answer)

    def test_many_closed_parts(self):
        triangles = []
        for number in range(299):
            triangles += moved(tetrahedron(), 20 * number, -number, 0)
        answer = [1, 1196, 1196, 299, 0, 20 * 298 + 10, -298, 10, 0, 10]
        self.assert_answer(triangles, answer)
        random.Random(6).shuffle(triangles)
        self.assert_answer(triangles, answer)

    def test_each_triangle_a_part(self):
        triangles = [((k, 0, 0), (k + 1, k % 7 + 1, 0), (k + 2, 0, 5)) for k in range(MOST)]
        self.assert_answer(triangles, [0, MOST, 3 * MOST, MOST, 0, MOST + 1, 0, 7, 0, 5])

    def test_a_long_strip(self):
        row = [(k, k % 2, 0) for k in range(MOST + 2)]
        strip = [(row[k], row[k + 1], row[k + 2]) for k in range(MOST)]
        answer = [0, MOST, MOST + 2, 1, 0, MOST + 1, 0, 1, 0, 0]
        self.assert_answer(strip, answer)
        self.assert_answer(strip[::-1], answer)
        self.assert_answer(strip[::2] + strip[1::2], answer)
        self.assert_answer(strip[1::2] + strip[-2::-2], answer)

    def test_all_round_one_edge(self):
        triangles = [((0, 0, 0), (0, 0, 9), (k + 1, 5, 5)) for k in range(MOST)]
        self.assert_answer(triangles, [0, MOST, MOST + 2, 1, 0, MOST, 0, 5, 0, 9])

    def test_none_that_counts(self):
        self.assert_answer([((k, 0, 0), (k, 0, 0), (0, k, 0)) for k in range(MOST)], EMPTY)


class Calls(CallRules, unittest.TestCase):
    def call(self, file):
        return check(file)

    def arguments(self):
        return [[file] for file in sample_files()]

    def test_how_many_numbers(self):
        for file in sample_files():
            answer = check(file)
            self.assertTrue(answer == REFUSED or len(answer) == 10)

    def test_by_its_name(self):
        self.assertEqual(check(file=[0] * 84), EMPTY)


if __name__ == "__main__":
    unittest.main()
