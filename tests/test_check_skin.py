"""Promise 1 on ordinary skins: closed or not, and what the numbers behind it are."""

import unittest

from solidlayers.solid import check
from tests.helper import EMPTY, box, moved, solid_file, tetrahedron


class Ordinary(unittest.TestCase):
    def test_tetrahedron(self):
        self.assertEqual(check(solid_file(tetrahedron(10))), [1, 4, 4, 1, 0, 10, 0, 10, 0, 10])

    def test_box_with_bounds_of_its_own_on_each_axis(self):
        file = solid_file(box((-70, 20, -5000), (-30, 110, 999)))
        self.assertEqual(check(file), [1, 12, 8, 1, -70, -30, 20, 110, -5000, 999])

    def test_several_parts(self):
        triangles = tetrahedron(10) + moved(tetrahedron(7), -100, 50, 3) + box((200, -9, -8), (201, -7, -6))
        self.assertEqual(check(solid_file(triangles)), [1, 20, 16, 3, -100, 201, -9, 57, -8, 10])

    def test_a_part_within_another(self):
        triangles = box((-50, -50, -50), (50, 50, 50)) + box((-5, -5, -5), (5, 5, 5))
        self.assertEqual(check(solid_file(triangles)), [1, 24, 16, 2, -50, 50, -50, 50, -50, 50])

    def test_bounds_come_from_any_corner_of_any_triangle(self):
        tall = (900, -800, 700)
        for place in range(3):
            for order in range(2):
                triangle = [(1, 2, 3), (4, 6, 5)]
                triangle.insert(place, tall)
                triangles = [tuple(triangle), ((1, 2, 3), (2, 2, 3), (3, 3, 3))]
                answer = check(solid_file(triangles[::-1] if order else triangles))
                self.assertEqual(answer, [0, 2, 5, 2, 1, 900, -800, 6, 3, 700])

    def test_bounds_that_lie_on_one_side_of_zero(self):
        file = solid_file([((-5, 8, -3), (-9, 7, -2), (-6, 6, -1))])
        self.assertEqual(check(file), [0, 1, 3, 1, -9, -5, 6, 8, -3, -1])


class Closed(unittest.TestCase):
    def test_nothing_is_closed(self):
        self.assertEqual(check(solid_file([])), EMPTY)

    def test_one_triangle_is_not(self):
        self.assertEqual(check(solid_file([((0, 0, 0), (5, 0, 0), (0, 6, 7))])), [0, 1, 3, 1, 0, 5, 0, 6, 0, 7])

    def test_both_sides_of_one_triangle_are(self):
        a, b, c = (1, 2, 3), (4, 5, 6), (7, 8, 10)
        self.assertEqual(check(solid_file([(a, b, c), (a, c, b)])), [1, 2, 3, 1, 1, 7, 2, 8, 3, 10])
        self.assertEqual(check(solid_file([(a, b, c), (c, b, a)])), [1, 2, 3, 1, 1, 7, 2, 8, 3, 10])

    def test_the_same_triangle_twice(self):
        a, b, c = (1, 2, 3), (4, 5, 6), (7, 8, 10)
        for again in [(a, b, c), (b, c, a), (c, a, b)]:
            self.assertEqual(check(solid_file([(a, b, c), again]))[:4], [0, 2, 3, 1])

    def test_one_triangle_of_a_closed_skin_twice(self):
        for number in range(4):
            triangles = tetrahedron()
            triangles.append(triangles[number])
            self.assertEqual(check(solid_file(triangles))[:4], [0, 5, 4, 1])

    def test_a_closed_skin_twice(self):
        # Each edge is there the other way, but twice.
        self.assertEqual(check(solid_file(tetrahedron() + tetrahedron()))[:4], [0, 8, 4, 1])

    def test_any_one_triangle_missing(self):
        whole = box((0, 0, 0), (10, 10, 10))
        for number in range(len(whole)):
            self.assertEqual(check(solid_file(whole[:number] + whole[number + 1:]))[:4], [0, 11, 8, 1])

    def test_any_one_triangle_turned_over(self):
        whole = tetrahedron()
        for number in range(4):
            triangles = list(whole)
            triangles[number] = triangles[number][::-1]
            self.assertEqual(check(solid_file(triangles))[:4], [0, 4, 4, 1])

    def test_an_edge_missing_the_other_way_with_none_there_twice(self):
        a, b, c, d = (0, 0, 0), (9, 0, 0), (0, 9, 0), (9, 9, 1)
        self.assertEqual(check(solid_file([(a, b, c), (c, b, d)]))[:4], [0, 2, 4, 1])

    def test_an_edge_there_twice_with_each_there_the_other_way(self):
        a, b, c = (1, 2, 3), (4, 5, 6), (7, 8, 10)
        self.assertEqual(check(solid_file([(a, b, c), (a, c, b), (a, b, c)]))[:4], [0, 3, 3, 1])

    def test_one_part_closed_beside_one_that_is_not(self):
        triangles = tetrahedron() + moved(tetrahedron(), 100, 0, 0)[:3]
        self.assertEqual(check(solid_file(triangles))[:4], [0, 7, 8, 2])
        self.assertEqual(check(solid_file(triangles[::-1]))[:4], [0, 7, 8, 2])

    def test_turned_inside_out_stays_closed(self):
        triangles = [triangle[::-1] for triangle in tetrahedron()]
        self.assertEqual(check(solid_file(triangles))[:4], [1, 4, 4, 1])

    def test_any_corner_of_a_triangle_may_come_first(self):
        triangles = tetrahedron()
        turned = [t[k % 3:] + t[:k % 3] for k, t in enumerate(triangles)]
        self.assertEqual(check(solid_file(turned))[:4], [1, 4, 4, 1])


if __name__ == "__main__":
    unittest.main()
