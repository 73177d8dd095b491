"""Promise 1, the parts: triangles that share an edge, either way, and so on."""

import itertools
import random
import unittest

from solidlayers.solid import check
from tests.helper import moved, solid_file, tetrahedron


def parts(triangles):
    return check(solid_file(triangles))[3]


class Parts(unittest.TestCase):
    def test_an_edge_shared_the_other_way(self):
        self.assertEqual(parts([((0, 0, 0), (9, 0, 0), (0, 9, 0)), ((9, 0, 0), (0, 0, 0), (0, -9, 0))]), 1)

    def test_an_edge_shared_the_same_way(self):
        self.assertEqual(parts([((0, 0, 0), (9, 0, 0), (0, 9, 0)), ((0, 0, 0), (9, 0, 0), (0, -9, 0))]), 1)

    def test_any_edge_of_one_is_any_edge_of_the_other(self):
        a, b, c, d = (0, 0, 0), (9, 0, 0), (0, 9, 0), (0, -9, 3)
        for first in itertools.permutations((a, b, c)):
            for second in itertools.permutations((a, b, d)):
                self.assertEqual(parts([first, second]), 1)

    def test_a_corner_shared_alone(self):
        a, b, c, d, e = (0, 0, 0), (9, 0, 0), (0, 9, 0), (0, -9, 3), (-9, -9, 3)
        for first in itertools.permutations((a, b, c)):
            for second in itertools.permutations((a, d, e)):
                self.assertEqual(check(solid_file([first, second]))[:4], [0, 2, 5, 2])

    def test_closed_skins_that_share_a_corner_alone(self):
        triangles = tetrahedron(10) + moved(tetrahedron(10), 10, 0, 0)
        self.assertEqual(check(solid_file(triangles)), [1, 8, 7, 2, 0, 20, 0, 10, 0, 10])

    def test_an_edge_of_three_triangles(self):
        a, b = (0, 0, 0), (9, 0, 0)
        self.assertEqual(parts([(a, b, (0, k, 1)) for k in range(3)]), 1)

    def test_a_later_triangle_brings_two_together(self):
        a, b, c, d, e = (0, 0, 0), (9, 0, 0), (0, 9, 0), (9, 9, 0), (5, 20, 0)
        apart = [(a, b, c), (c, d, e)]
        self.assertEqual(parts(apart), 2)
        for order in itertools.permutations(apart + [(b, d, c)]):
            self.assertEqual(parts(order), 1)

    def test_a_later_triangle_brings_three_together(self):
        a, b, c = (0, 0, 0), (9, 0, 0), (0, 9, 0)
        apart = [(a, b, (0, 0, 5)), (b, c, (7, 7, 7)), (c, a, (-3, -3, -3))]
        self.assertEqual(parts(apart), 3)
        for order in itertools.permutations(apart + [(a, b, c)]):
            self.assertEqual(parts(order), 1)

    def test_groups_joined_by_a_later_triangle(self):
        # Two strips, each of one part, and behind both a bridge of two triangles from one to the other.
        strip = [((0, k, 0), (1, k + 1, 0), (0, k + 1, 0)) for k in range(6)]
        strip += [((0, k, 0), (1, k, 0), (1, k + 1, 0)) for k in range(6)]
        far = moved(strip, 100, 0, 0)
        self.assertEqual(parts(strip), 1)
        self.assertEqual(parts(strip + far), 2)
        bridge = [((1, 6, 0), (100, 6, 0), (0, 6, 0)), ((1, 6, 0), (101, 6, 0), (100, 6, 0))]
        self.assertEqual(parts(strip + far + bridge[:1]), 2)
        self.assertEqual(parts(strip + far + bridge), 1)

    def test_a_triangle_that_does_not_count_joins_nothing(self):
        a, b, c, d = (0, 0, 0), (9, 0, 0), (0, 9, 0), (0, 0, 9)
        self.assertEqual(parts([(a, b, (5, 5, 5)), (a, a, b), (c, d, (6, 6, 6)), (b, c, b)]), 2)


def merged(triangles):
    """How many parts there are, told by trying every pair of groups until none can be merged."""
    groups = [{frozenset(pair) for pair in itertools.combinations(t, 2)} for t in triangles]
    again = True
    while again:
        again = False
        for first, second in itertools.combinations(groups, 2):
            if first & second:
                groups.remove(second)
                first |= second
                again = True
                break
    return len(groups)


def looked_over(triangles):
    """What check should answer, told from the document's words by the slowest way."""
    real = [t for t in triangles if len(set(t)) == 3]
    edges = [edge for a, b, c in real for edge in ((a, b), (b, c), (c, a))]
    closed = all(edges.count(e) == 1 and edges.count(e[::-1]) >= 1 for e in edges)
    corners = {corner for t in real for corner in t}
    answer = [int(closed), len(real), len(corners), merged(real)]
    for axis in range(3):
        along = sorted(corner[axis] for corner in corners) or [0]
        answer += [along[0], along[-1]]
    return answer


class AgainstTheWords(unittest.TestCase):
    def test_many_small_skins(self):
        made = random.Random(20)
        for size in range(300):
            wide = made.randint(1, 3)
            triangles = [
                tuple(tuple(made.randint(-wide, wide) for axis in range(3)) for corner in range(3))
                for number in range(size % 30)
            ]
            self.assertEqual(check(solid_file(triangles)), looked_over(triangles), triangles)

    def test_many_skins_over_few_corners(self):
        made = random.Random(21)
        closed = 0
        for size in range(600):
            corners = [(1, 2, 3), (-4, 0, 9), (5, -5, 5), (0, 8, -1), (2, 2, 2)][:made.randint(3, 5)]
            triangles = [tuple(made.choices(corners, k=3)) for number in range(size % 7)]
            if made.randint(0, 1):
                triangles += [t[::-1] for t in triangles]
            answer = check(solid_file(triangles))
            self.assertEqual(answer, looked_over(triangles), triangles)
            closed += answer[0]
        self.assertTrue(100 < closed < 500)


if __name__ == "__main__":
    unittest.main()
