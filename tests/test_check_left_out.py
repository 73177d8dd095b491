"""Promise 1, the triangles of which two corners are one: they don't count."""

import unittest

from solidlayers.solid import check
from tests.helper import EMPTY, REFUSED, bits_of, raw_file, single, solid_file, tetrahedron

A, B = (700, -800, 900), (-1, 5000, -3)
LEFT_OUT = [(A, A, B), (A, B, A), (B, A, A), (A, A, A)]
NO_NUMBER = 0x7FC00000
TOO_FAR = single(1000001)


class LeftOut(unittest.TestCase):
    def test_alone(self):
        for triangle in LEFT_OUT:
            self.assertEqual(check(solid_file([triangle])), EMPTY)

    def test_several_alone(self):
        self.assertEqual(check(solid_file(LEFT_OUT + LEFT_OUT)), EMPTY)

    def test_beside_others(self):
        plain = check(solid_file(tetrahedron()))
        for triangle in LEFT_OUT:
            for place in range(5):
                triangles = tetrahedron()
                triangles.insert(place, triangle)
                self.assertEqual(check(solid_file(triangles)), plain)

    def test_their_edges_are_no_edges(self):
        # Each of these has edges that the closed skin has too, both ways.
        triangles = tetrahedron()
        plain = check(solid_file(triangles))
        a, b = triangles[0][0], triangles[0][1]
        for left_out in [(a, a, b), (a, b, a), (b, a, a), (b, b, a), (a, a, a)]:
            self.assertEqual(check(solid_file(triangles + [left_out])), plain)

    def test_their_edges_close_nothing(self):
        a, b, c = (0, 0, 0), (9, 0, 0), (0, 9, 0)
        triangles = [(a, b, c), (b, a, b), (c, b, c), (a, c, a)]
        self.assertEqual(check(solid_file(triangles)), [0, 1, 3, 1, 0, 9, 0, 9, 0, 0])

    def test_two_coordinates_alike_are_not_two_corners_alike(self):
        for triangle in [
            ((1, 2, 3), (1, 2, 4), (1, 2, 5)),
            ((1, 2, 3), (1, 3, 3), (1, 4, 3)),
            ((1, 2, 3), (2, 2, 3), (3, 2, 3)),
            ((1, 2, 3), (2, 3, 1), (3, 1, 2)),
        ]:
            self.assertEqual(check(solid_file([triangle]))[:4], [0, 1, 3, 1])

    def test_corners_on_one_line_still_count(self):
        file = solid_file([((0, 0, 0), (1, 1, 1), (2, 2, 2))])
        self.assertEqual(check(file), [0, 1, 3, 1, 0, 2, 0, 2, 0, 2])

    def test_one_only_after_rounding(self):
        for near in [4.6, 4.9, 5.1, 5.4]:
            for first in range(3):
                triangle = [(90, 90, 90)] * 3
                triangle[first] = (5, 5, 5)
                triangle[(first + 1) % 3] = (near, 5, near)
                self.assertEqual(check(solid_file([triangle])), EMPTY)

    def test_two_only_after_rounding(self):
        file = solid_file([((5.4, 5, 5), (5.6, 5, 5), (90, 90, 90))])
        self.assertEqual(check(file), [0, 1, 3, 1, 5, 90, 5, 90, 5, 90])

    def test_corners_of_two_triangles_that_are_one_after_rounding(self):
        triangles = tetrahedron(10)
        triangles[0] = ((0.3, -0.3, 0.1), (-0.2, 10.4, 0.4), (9.7, 0, -0.4))
        self.assertEqual(check(solid_file(triangles)), [1, 4, 4, 1, 0, 10, 0, 10, 0, 10])

    def test_a_wrong_coordinate_in_one_makes_the_file_wrong(self):
        for wrong in [NO_NUMBER, TOO_FAR, 0x7F800000, 0xFF800000]:
            for place in range(9):
                alike = [single(5)] * 9
                alike[place] = wrong
                self.assertEqual(check(raw_file([alike])), REFUSED)

    def test_a_wrong_coordinate_in_corners_that_are_one(self):
        for wrong in [NO_NUMBER, TOO_FAR, 0x7F800000, 0xFF800000]:
            for axis in range(3):
                one = [single(1), single(2), single(3)]
                one[axis] = wrong
                for triangle in [one + one + one, one + one + [0, 0, 0], [0, 0, 0] + one + one, one + [0, 0, 0] + one]:
                    self.assertEqual(check(raw_file([triangle])), REFUSED)
                    good = [bits_of(each) for each in tetrahedron()]
                    self.assertEqual(check(raw_file(good + [triangle])), REFUSED)
                    self.assertEqual(check(raw_file([triangle] + good)), REFUSED)


if __name__ == "__main__":
    unittest.main()
