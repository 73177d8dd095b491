"""Promise 3 as a call: most, refusals and their order, long files, what is handed in, nothing kept."""

import random
import time
import unittest

from solidlayers.solid import layer
from tests.helper import (
    FAR, GREATEST_INT, LEAST_INT, NOT_CLOSED, OUT_OF_RANGE, REFUSED, TOO_MANY, CallRules, bits_of, box, double_pyramid,
    folded_band, inside_out, layer_by_words, moved, raw_file, sample_files, single, solid_file, tetrahedron, two_feet,
)

SECONDS = 20
WHOLE = solid_file(tetrahedron(10))
OPEN = solid_file(tetrahedron(10)[:3])
WRONG = WHOLE[:-1]
TOLD = [7, 3, 5, 0, 0, 5, 0, 0]


class Most(unittest.TestCase):
    def test_just_as_many(self):
        self.assertEqual(layer(4, 7, WHOLE), TOLD)

    def test_one_fewer(self):
        self.assertEqual(layer(4, 6, WHOLE), TOO_MANY)

    def test_more_and_fewer(self):
        for most in [8, 100, FAR, GREATEST_INT]:
            self.assertEqual(layer(4, most, WHOLE), TOLD)
        for most in range(7):
            self.assertEqual(layer(4, most, WHOLE), TOO_MANY)

    def test_several_loops(self):
        file = solid_file(two_feet())
        answer = layer(0, 18, file)
        self.assertEqual(answer, [18, 4, -5, -6, -3, 0, -5, 5, -7, 0, 4, 6, 0, 4, 5, 3, 0, 4, -6])
        for most in [0, 1, 2, 8, 9, 16, 17]:
            self.assertEqual(layer(0, most, file), TOO_MANY)

    def test_0_with_no_loop(self):
        self.assertEqual(layer(10, 0, WHOLE), [0])
        self.assertEqual(layer(-1, 0, WHOLE), [0])
        self.assertEqual(layer(0, 0, [0] * 84), [0])

    def test_0_with_a_loop(self):
        self.assertEqual(layer(4, 0, WHOLE), TOO_MANY)

    def test_a_negative_one(self):
        for most in [-1, -2, -7, LEAST_INT]:
            self.assertEqual(layer(4, most, WHOLE), OUT_OF_RANGE)
            self.assertEqual(layer(10, most, WHOLE), OUT_OF_RANGE)
            self.assertEqual(layer(0, most, [0] * 84), OUT_OF_RANGE)


class Refusals(unittest.TestCase):
    def test_z_at_its_ends(self):
        for z in [-FAR, FAR]:
            self.assertEqual(layer(z, 0, WHOLE), [0])
        for z in [-FAR - 1, FAR + 1, -2 * FAR, 2 * FAR, LEAST_INT, GREATEST_INT]:
            self.assertEqual(layer(z, 0, WHOLE), OUT_OF_RANGE)
            self.assertEqual(layer(z, GREATEST_INT, WHOLE), OUT_OF_RANGE)

    def test_the_greatest_and_the_least_ints(self):
        for z in [LEAST_INT, GREATEST_INT]:
            for most in [LEAST_INT, GREATEST_INT]:
                self.assertEqual(layer(z, most, WHOLE), OUT_OF_RANGE)
        self.assertEqual(layer(4, GREATEST_INT, WHOLE), TOLD)
        self.assertEqual(layer(4, LEAST_INT, WHOLE), OUT_OF_RANGE)

    def test_a_wrong_file(self):
        for length in range(len(WHOLE)):
            self.assertEqual(layer(4, 7, WHOLE[:length]), REFUSED, length)
        self.assertEqual(layer(4, 7, WHOLE + [0]), REFUSED)

    def test_a_wrong_coordinate(self):
        for wrong in [single(FAR + 1), single(-FAR - 1), 0x7F800000, 0xFF800000, 0x7FC00000]:
            for number in range(4):
                for place in range(9):
                    triangles = [bits_of(triangle) for triangle in tetrahedron(10)]
                    triangles[number][place] = wrong
                    self.assertEqual(layer(4, 7, raw_file(triangles)), REFUSED)

    def test_a_skin_that_is_not_closed(self):
        whole = box((0, 0, 0), (10, 10, 10))
        for number, triangle in enumerate(whole):
            for skin in [whole[:number] + whole[number + 1:], whole + [triangle], whole + [triangle[::-1]]]:
                self.assertEqual(layer(4, FAR, solid_file(skin)), NOT_CLOSED)
        self.assertEqual(layer(4, FAR, solid_file(whole + whole)), NOT_CLOSED)

    def test_not_closed_where_the_layer_does_not_lie(self):
        triangles = tetrahedron(10) + moved(tetrahedron(10), 0, 0, 500)[:3]
        for z in [4, 504, 200, -FAR, FAR]:
            self.assertEqual(layer(z, FAR, solid_file(triangles)), NOT_CLOSED)
        self.assertEqual(layer(4, FAR, solid_file(tetrahedron(10)[1:])), NOT_CLOSED)

    def test_out_of_range_comes_before_all(self):
        for file in [WHOLE, OPEN, WRONG, [], OPEN + [0]]:
            for z, most in [(FAR + 1, 7), (-FAR - 1, 7), (4, -1), (FAR + 1, -1), (FAR + 1, 0)]:
                self.assertEqual(layer(z, most, file), OUT_OF_RANGE)

    def test_a_wrong_file_comes_before_an_open_skin_and_most(self):
        for most in [0, 7, FAR]:
            self.assertEqual(layer(4, most, WRONG), REFUSED)
            self.assertEqual(layer(4, most, OPEN[:-1]), REFUSED)
            self.assertEqual(layer(4, most, OPEN + [0]), REFUSED)

    def test_an_open_skin_comes_before_most(self):
        for most in [0, 1, 7, FAR]:
            self.assertEqual(layer(4, most, OPEN), NOT_CLOSED)


class LongFiles(unittest.TestCase):
    def timed(self, z, triangles):
        file = solid_file(triangles)
        self.assertTrue(59000 < len(file) <= 60000)
        start = time.perf_counter()
        answer = layer(z, GREATEST_INT, file)
        self.assertEqual(layer(z, answer[0], file), answer)
        self.assertEqual(layer(z, answer[0] - 1, file), TOO_MANY)
        self.assertLess(time.perf_counter() - start, SECONDS)
        return answer

    def test_one_loop_through_all_triangles(self):
        triangles = folded_band(299)
        answer = self.timed(0, triangles)
        self.assertEqual(answer[:2], [1 + 2 * 1196, 1196])
        self.assertEqual(answer, layer_by_words(triangles, 0))
        random.Random(50).shuffle(triangles)
        self.assertEqual(self.timed(0, triangles), layer_by_words(triangles, 0))
        self.assertEqual(self.timed(0, triangles[::-1])[:2], [1 + 2 * 1196, 1196])

    def test_half_of_the_triangles(self):
        triangles = double_pyramid(599)
        self.assertEqual(self.timed(17, triangles), layer_by_words(triangles, 17))

    def test_many_loops(self):
        triangles = []
        for number in range(299):
            triangles += moved(tetrahedron(10), 20 * number, -number, 0)
        answer = [7 * 299]
        for number in range(299):
            x, y = 20 * number, -number
            answer += [3, x + 5, y, x, y + 5, x, y]
        self.assertEqual(self.timed(4, triangles), answer)

    def test_most_of_them_not_cut(self):
        triangles = double_pyramid(597) + moved(tetrahedron(10), 0, 0, 6000)
        self.assertEqual(self.timed(6004, triangles), TOLD)


class Calls(CallRules, unittest.TestCase):
    def call(self, z, most, file):
        return layer(z, most, file)

    def arguments(self):
        files = sample_files() + [solid_file(inside_out(tetrahedron())), solid_file(two_feet())]
        asked = [(0, 100), (3, 7), (3, 6), (-8, 100), (FAR + 1, 5), (0, -1)]
        return [[z, most, file] for file in files for z, most in asked]

    def test_how_many_numbers(self):
        for z, most, file in self.arguments():
            answer = layer(z, most, file)
            self.assertEqual(len(answer), 1 + max(answer[0], 0))

    def test_by_its_names(self):
        self.assertEqual(layer(file=WHOLE, most=7, z=4), TOLD)
        self.assertEqual(layer(4, 7, WHOLE), TOLD)


if __name__ == "__main__":
    unittest.main()
