"""Promise 4 as a call: most, refusals and their order, long files, what is handed in, nothing kept."""

import time
import unittest

from solidlayers.solid import fill
from tests.helper import (
    FAR, GREATEST_INT, LEAST_INT, NOT_CLOSED, OUT_OF_RANGE, REFUSED, TOO_MANY, CallRules, bits_of, box, cone,
    double_pyramid, fill_by_words, folded_band, inside_out, moved, raw_file, sample_files, single, solid_file,
    tetrahedron, two_feet,
)

SECONDS = 20
PLENTY = 999999
WHOLE = solid_file(tetrahedron(10))
OPEN = solid_file(tetrahedron(10)[:3])
WRONG = WHOLE[:-1]
TOLD = [12, 0, 1, 0, 4, 2, 1, 0, 2, 4, 1, 0, 0]


class Most(unittest.TestCase):
    def test_just_as_many(self):
        self.assertEqual(fill(4, 0, 2, 12, WHOLE), TOLD)

    def test_one_fewer(self):
        self.assertEqual(fill(4, 0, 2, 11, WHOLE), TOO_MANY)

    def test_more_and_fewer(self):
        for most in [13, 100, FAR, GREATEST_INT]:
            self.assertEqual(fill(4, 0, 2, most, WHOLE), TOLD)
        for most in range(12):
            self.assertEqual(fill(4, 0, 2, most, WHOLE), TOO_MANY)

    def test_several_loops_on_a_line(self):
        file = solid_file(two_feet())
        self.assertEqual(fill(0, 0, 100, 6, file), [6, 0, 2, -7, -4, 3, 5])
        self.assertEqual(fill(0, 0, 100, 5, file), TOO_MANY)

    def test_lines_far_apart(self):
        # The lines between the two parts cross nothing, and count for nothing.
        file = solid_file(tetrahedron(10) + moved(tetrahedron(10), 50, 2000, 0))
        answer = fill(4, -FAR, 1, 40, file)
        self.assertEqual(answer[0], 40)
        self.assertEqual(fill(4, -FAR, 1, 39, file), TOO_MANY)

    def test_0_with_nothing_crossed(self):
        for z, first, step in [(10, 0, 1), (-1, 0, 1), (4, 5, 1), (4, -FAR, 999999), (4, FAR, 1)]:
            self.assertEqual(fill(z, first, step, 0, WHOLE), [0])
        self.assertEqual(fill(0, -FAR, 1, 0, [0] * 84), [0])

    def test_0_with_something_crossed(self):
        self.assertEqual(fill(4, 0, 2, 0, WHOLE), TOO_MANY)
        self.assertEqual(fill(4, 4, FAR, 0, WHOLE), TOO_MANY)
        self.assertEqual(fill(4, -FAR, FAR, 0, WHOLE), TOO_MANY)

    def test_a_negative_one(self):
        for most in [-1, -2, -12, LEAST_INT]:
            self.assertEqual(fill(4, 0, 2, most, WHOLE), OUT_OF_RANGE)
            self.assertEqual(fill(10, 0, 2, most, WHOLE), OUT_OF_RANGE)
            self.assertEqual(fill(0, 0, 1, most, [0] * 84), OUT_OF_RANGE)


class Refusals(unittest.TestCase):
    def test_z(self):
        for z in [-FAR, FAR]:
            self.assertEqual(fill(z, 0, 1, 0, WHOLE), [0])
        for z in [-FAR - 1, FAR + 1, -2 * FAR, 2 * FAR, LEAST_INT, GREATEST_INT]:
            self.assertEqual(fill(z, 0, 1, FAR, WHOLE), OUT_OF_RANGE)

    def test_first(self):
        self.assertEqual(fill(4, -FAR, FAR, 12, WHOLE), [4, 0, 1, 0, 4])
        self.assertEqual(fill(4, FAR, 1, 12, WHOLE), [0])
        for first in [-FAR - 1, FAR + 1, -2 * FAR, 2 * FAR, LEAST_INT, GREATEST_INT]:
            self.assertEqual(fill(4, first, 1, FAR, WHOLE), OUT_OF_RANGE)

    def test_step(self):
        self.assertEqual(fill(4, 4, 1, 12, WHOLE), [4, 4, 1, 0, 0])
        self.assertEqual(fill(4, 0, FAR, 12, WHOLE), [4, 0, 1, 0, 4])
        for step in [0, -1, -2, -FAR, FAR + 1, 2 * FAR, LEAST_INT, GREATEST_INT]:
            self.assertEqual(fill(4, 0, step, FAR, WHOLE), OUT_OF_RANGE)

    def test_the_greatest_and_the_least_ints(self):
        for extreme in [LEAST_INT, GREATEST_INT]:
            for place in range(3):
                numbers = [4, 0, 2, 12]
                numbers[place] = extreme
                self.assertEqual(fill(*numbers, WHOLE), OUT_OF_RANGE)
            self.assertEqual(fill(extreme, extreme, extreme, extreme, WHOLE), OUT_OF_RANGE)
        self.assertEqual(fill(4, 0, 2, LEAST_INT, WHOLE), OUT_OF_RANGE)
        self.assertEqual(fill(4, 0, 2, GREATEST_INT, WHOLE), TOLD)

    def test_a_wrong_file(self):
        for length in range(len(WHOLE)):
            self.assertEqual(fill(4, 0, 2, 12, WHOLE[:length]), REFUSED, length)
        self.assertEqual(fill(4, 0, 2, 12, WHOLE + [0]), REFUSED)

    def test_a_wrong_coordinate(self):
        for wrong in [single(FAR + 1), single(-FAR - 1), 0x7F800000, 0xFF800000, 0x7FC00000]:
            for number in range(4):
                for place in range(9):
                    triangles = [bits_of(triangle) for triangle in tetrahedron(10)]
                    triangles[number][place] = wrong
                    self.assertEqual(fill(4, 0, 2, 12, raw_file(triangles)), REFUSED)

    def test_a_skin_that_is_not_closed(self):
        whole = box((0, 0, 0), (10, 10, 10))
        for number, triangle in enumerate(whole):
            for skin in [whole[:number] + whole[number + 1:], whole + [triangle], whole + [triangle[::-1]]]:
                self.assertEqual(fill(4, 0, 2, FAR, solid_file(skin)), NOT_CLOSED)
        self.assertEqual(fill(4, 0, 2, FAR, solid_file(whole + whole)), NOT_CLOSED)

    def test_not_closed_where_no_line_runs(self):
        triangles = tetrahedron(10) + moved(tetrahedron(10), 0, 0, 500)[:3]
        for z in [4, 504, 200, -FAR, FAR]:
            for first in [-FAR, 0, FAR]:
                self.assertEqual(fill(z, first, 2, FAR, solid_file(triangles)), NOT_CLOSED)

    def test_out_of_range_comes_before_all(self):
        wrong_numbers = [
            (FAR + 1, 0, 2, 12), (-FAR - 1, 0, 2, 12), (4, FAR + 1, 2, 12), (4, -FAR - 1, 2, 12), (4, 0, 0, 12),
            (4, 0, -1, 12), (4, 0, FAR + 1, 12), (4, 0, 2, -1), (FAR + 1, FAR + 1, 0, -1), (4, 0, 0, 0),
        ]
        for file in [WHOLE, OPEN, WRONG, [], OPEN + [0]]:
            for numbers in wrong_numbers:
                self.assertEqual(fill(*numbers, file), OUT_OF_RANGE)

    def test_a_wrong_file_comes_before_an_open_skin_and_most(self):
        for most in [0, 12, FAR]:
            self.assertEqual(fill(4, 0, 2, most, WRONG), REFUSED)
            self.assertEqual(fill(4, 0, 2, most, OPEN[:-1]), REFUSED)
            self.assertEqual(fill(4, 0, 2, most, OPEN + [0]), REFUSED)

    def test_an_open_skin_comes_before_most(self):
        for most in [0, 1, 12, FAR]:
            self.assertEqual(fill(4, 0, 2, most, OPEN), NOT_CLOSED)


class LongFiles(unittest.TestCase):
    def timed(self, numbers, file):
        start = time.perf_counter()
        answer = fill(*numbers, file)
        self.assertLess(time.perf_counter() - start, SECONDS)
        return answer

    def long_file(self, triangles):
        file = solid_file(triangles)
        self.assertTrue(59000 < len(file) <= 60000)
        return file

    def test_one_loop_through_all_triangles(self):
        triangles = folded_band(299)
        file = self.long_file(triangles)
        answer = self.timed((0, -FAR, 1, PLENTY), file)
        self.assertEqual(answer, fill_by_words(triangles, 0, -FAR, 1))
        self.assertGreater(answer[0], 10000)
        self.assertEqual(self.timed((0, -FAR, 1, answer[0]), file), answer)
        self.assertEqual(self.timed((0, -FAR, 1, answer[0] - 1), file), TOO_MANY)

    def test_many_loops(self):
        file = self.long_file(
            [triangle for number in range(299) for triangle in moved(tetrahedron(10), 0, 20 * number, 0)]
        )
        expected = []
        for number in range(299):
            for y in range(5):
                expected += [20 * number + y, 1, 0, 4 - y]
        self.assertEqual(self.timed((4, -FAR, 1, PLENTY), file), [len(expected)] + expected)

    def test_loops_at_both_ends(self):
        triangles = moved(tetrahedron(10), 0, -FAR, 0) + moved(tetrahedron(10), 0, FAR - 10, 0)
        triangles += moved(double_pyramid(595), 0, 0, 100000)
        answer = self.timed((4, -FAR, 1, PLENTY), self.long_file(triangles))
        self.assertEqual(answer[0], 40)
        self.assertEqual(answer[1::4], [y + end for end in (-FAR, FAR - 10) for y in range(5)])

    def test_nearly_a_million_numbers(self):
        # 198 teeth of 2400 lines each, and a back of ten lines below them.
        teeth = [(100 * k, 2400 * (k % 2)) for k in range(397)] + [(100 * k, -10) for k in range(397, 596)]
        file = self.long_file(cone(teeth))
        answer = self.timed((0, -FAR, 1, GREATEST_INT), file)
        self.assertEqual(answer[0], 2 * 2410 + 2 * 10 + 2 * 198 * 2400)
        self.assertEqual(len(answer), 1 + answer[0])
        self.assertEqual(answer[1:5], [-10, 1, 39695, 56525])
        self.assertEqual(answer[41:44], [0, 198, 0])
        self.assertEqual(self.timed((0, -FAR, 1, answer[0] - 1), file), TOO_MANY)

    def test_a_quarter_of_a_million_lines(self):
        file = solid_file(box((-3, 0, 0), (4, 249999, 9)))
        answer = self.timed((4, -FAR, 1, PLENTY), file)
        self.assertEqual(answer[0], 999996)
        self.assertEqual(answer[1::4], list(range(249999)))
        self.assertEqual(set(answer[2::4]), {1})
        self.assertEqual((set(answer[3::4]), set(answer[4::4])), ({-3}, {4}))

    def test_far_more_crossings_than_most(self):
        # Each of 598 sides meets a million lines: six hundred million numbers that are not to be told.
        teeth = [(k, 500000 if k % 2 else -500000) for k in range(598)]
        file = self.long_file(cone(teeth))
        for most in [0, 1, PLENTY, 500000000, 599999999]:
            self.assertEqual(self.timed((0, -FAR, 1, most), file), TOO_MANY)
        self.assertEqual(len(self.timed((0, -FAR, FAR, PLENTY), file)), 1 + 2 + 598)


class Calls(CallRules, unittest.TestCase):
    def call(self, z, first, step, most, file):
        return fill(z, first, step, most, file)

    def arguments(self):
        files = sample_files() + [solid_file(inside_out(tetrahedron())), solid_file(two_feet())]
        asked = [(0, -20, 1, 999), (3, 0, 2, 12), (3, 0, 2, 11), (3, 0, 2, 0), (FAR + 1, 0, 1, 5), (0, 0, 0, 5)]
        return [[*numbers, file] for file in files for numbers in asked]

    def test_how_many_numbers(self):
        for each in self.arguments():
            answer = fill(*each)
            self.assertEqual(len(answer), 1 + max(answer[0], 0))

    def test_by_its_names(self):
        self.assertEqual(fill(file=WHOLE, most=12, step=2, first=0, z=4), TOLD)
        self.assertEqual(fill(4, 0, 2, 12, WHOLE), TOLD)


if __name__ == "__main__":
    unittest.main()
