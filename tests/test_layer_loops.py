"""Promise 3, the loops: which there are at a height, where they begin, which way they go, and their points."""

import itertools
import random
import unittest

from solidlayers.solid import layer
from tests.helper import (
    FAR, box, crumpled, double_pyramid, folded_band, inside_out, is_closed_by_words, layer_by_words, moved, solid_file,
    tetrahedron, two_feet,
)

PLENTY = 999999
NOTHING = [0]


def cut(triangles, z):
    return layer(z, PLENTY, solid_file(triangles))


def loops_of(answer):
    """The loops that an answer tells, each a list of points."""
    loops, place = [], 1
    while place < len(answer):
        size = answer[place]
        flat = answer[place + 1:place + 1 + 2 * size]
        loops.append(list(zip(flat[::2], flat[1::2])))
        place += 1 + 2 * size
    assert place == len(answer) == answer[0] + 1
    return loops


def twice_the_area(loop):
    return sum(ax * by - bx * ay for (ax, ay), (bx, by) in zip(loop, loop[1:] + loop[:1]))


def turned(loop, places):
    return loop[places:] + loop[:places]


class OneLoop(unittest.TestCase):
    def test_tetrahedron(self):
        self.assertEqual(cut(tetrahedron(10), 4), [7, 3, 5, 0, 0, 5, 0, 0])

    def test_box(self):
        # Each of the four sides has two triangles: one tells an upright edge, one the slanting edge between them.
        self.assertEqual(
            cut(box((0, 0, 0), (10, 20, 30)), 14),
            [17, 8, 10, 0, 10, 9, 10, 20, 4, 20, 0, 20, 0, 9, 0, 0, 4, 0],
        )

    def test_against_the_clock_round_what_is_solid(self):
        for triangles in [tetrahedron(100), box((-50, -60, -70), (80, 90, 100))]:
            for z in [0, 20, 90]:
                for skin, sign in [(triangles, 1), (inside_out(triangles), -1)]:
                    loops = loops_of(cut(skin, z))
                    self.assertEqual(len(loops), 1)
                    self.assertGreater(sign * twice_the_area(loops[0]), 0)

    def test_turned_inside_out(self):
        # Each triangle's edge up is now what its edge down was: the loop begins at the point before, and goes back.
        self.assertEqual(cut(inside_out(tetrahedron(10)), 4), [7, 3, 0, 0, 0, 5, 5, 0])

    def test_it_begins_with_the_first_triangle_that_is_cut(self):
        bottom, first, second, third = tetrahedron(10)
        ring = [(first, (5, 0)), (third, (0, 5)), (second, (0, 0))]
        for places in range(3):
            around = turned(ring, places)
            points = [point for triangle, point in around]
            (begin, point), *others = around
            for rest in itertools.permutations([bottom] + [triangle for triangle, point in others]):
                self.assertEqual(loops_of(cut((begin,) + rest, 4)), [points])
            for rest in itertools.permutations([triangle for triangle, point in others]):
                self.assertEqual(loops_of(cut((bottom, begin) + rest, 4)), [points])

    def test_any_corner_of_a_triangle_may_come_first(self):
        plain = cut(tetrahedron(10), 4)
        for turns in itertools.product(range(3), repeat=4):
            triangles = [t[k:] + t[:k] for t, k in zip(tetrahedron(10), turns)]
            self.assertEqual(cut(triangles, 4), plain)

    def test_both_sides_of_one_triangle(self):
        a, b, c = (0, 0, 0), (10, 0, 10), (0, 20, 10)
        self.assertEqual(cut([(a, b, c), (a, c, b)], 4), [5, 2, 4, 0, 0, 9])
        self.assertEqual(cut([(a, c, b), (a, b, c)], 4), [5, 2, 0, 9, 4, 0])

    def test_corners_on_one_line_still_count(self):
        a, b, c = (0, 0, 0), (10, 10, 10), (20, 20, 20)
        self.assertEqual(cut([(a, b, c), (a, c, b)], 4), [5, 2, 4, 4, 4, 4])
        self.assertEqual(cut([(a, b, c), (a, c, b)], 14), [5, 2, 14, 14, 14, 14])


class ByEdges(unittest.TestCase):
    def test_neighbours_far_apart_in_the_file(self):
        # All even triangles of the ring first, then the odd ones: each neighbour is half the file away.
        sides = 12
        ring = double_pyramid(sides)
        upper, lower = ring[::2], ring[1::2]
        plain = loops_of(cut(upper + lower, 100))
        self.assertEqual(len(plain), 1)
        self.assertEqual(len(plain[0]), sides)
        self.assertEqual(loops_of(cut(upper[::2] + lower + upper[1::2], 100)), plain)
        self.assertEqual(loops_of(cut(upper[::2] + upper[::-1][::2] + lower, 100)), plain)
        for step in [5, 7, 11]:
            scattered = [upper[step * k % sides] for k in range(sides)]
            self.assertEqual(loops_of(cut(scattered + lower, 100)), plain)

    def test_any_order(self):
        made = random.Random(40)
        triangles = folded_band(9)
        plain = loops_of(cut(triangles, 0))
        self.assertEqual([len(loop) for loop in plain], [36])
        for again in range(30):
            order = list(range(36))
            made.shuffle(order)
            shuffled = [triangles[k] for k in order]
            # In this skin's own order each triangle is followed by the next in the file.
            self.assertEqual(loops_of(cut(shuffled, 0)), [turned(plain[0], order[0])])


class SeveralLoops(unittest.TestCase):
    def test_parts_in_the_order_of_their_first_triangles(self):
        parts = [tetrahedron(10), moved(tetrahedron(10), 100, 0, 0), moved(tetrahedron(10), 0, -50, 0)]
        loops = [[(5, 0), (0, 5), (0, 0)], [(105, 0), (100, 5), (100, 0)], [(5, -50), (0, -45), (0, -50)]]
        for order in itertools.permutations(range(3)):
            triangles = [triangle for k in order for triangle in parts[k]]
            self.assertEqual(loops_of(cut(triangles, 4)), [loops[k] for k in order])

    def test_parts_told_by_turns(self):
        first, second = tetrahedron(10), moved(tetrahedron(10), 100, 0, 0)
        triangles = [triangle for pair in zip(second, first) for triangle in pair]
        self.assertEqual(loops_of(cut(triangles, 4)), [[(105, 0), (100, 5), (100, 0)], [(5, 0), (0, 5), (0, 0)]])

    def test_first_means_first_that_is_cut(self):
        # The lower part stands first in the file, but the layer doesn't meet the triangle it begins with.
        first, second = tetrahedron(10), moved(tetrahedron(10), 100, 0, 0)
        triangles = first[:1] + second + first[1:]
        self.assertEqual(loops_of(cut(triangles, 4)), [[(105, 0), (100, 5), (100, 0)], [(5, 0), (0, 5), (0, 0)]])

    def test_a_hole_within(self):
        outer, inner = tetrahedron(100), inside_out(moved(tetrahedron(20), 10, 10, 10))
        loops = loops_of(cut(outer + inner, 14))
        self.assertEqual(loops, [[(85, 0), (0, 85), (0, 0)], [(10, 10), (10, 25), (25, 10)]])
        self.assertGreater(twice_the_area(loops[0]), 0)
        self.assertLess(twice_the_area(loops[1]), 0)
        self.assertEqual(loops_of(cut(inner + outer, 14)), loops[::-1])

    def test_only_some_parts_are_met(self):
        triangles = tetrahedron(10) + moved(tetrahedron(10), 0, 0, 5) + moved(tetrahedron(10), 0, 0, 20)
        for height, met in [(-1, 0), (0, 1), (4, 1), (5, 2), (9, 2), (10, 1), (14, 1), (15, 0), (19, 0), (20, 1)]:
            self.assertEqual(len(loops_of(cut(triangles, height))), met, height)

    def test_one_part_with_several_loops(self):
        loops = [[(-5, -6), (-3, 0), (-5, 5), (-7, 0)], [(6, 0), (4, 5), (3, 0), (4, -6)]]
        self.assertEqual(loops_of(cut(two_feet(), 0)), loops)
        self.assertEqual(len(loops_of(cut(two_feet(), 4))), 2)
        self.assertEqual(len(loops_of(cut(two_feet(), 5))), 1)

    def test_parts_that_share_a_corner_alone(self):
        triangles = tetrahedron(10) + moved(tetrahedron(10), 10, 0, 0)
        self.assertEqual(loops_of(cut(triangles, 4)), [[(5, 0), (0, 5), (0, 0)], [(15, 0), (10, 5), (10, 0)]])


class Heights(unittest.TestCase):
    def test_a_corners_own_height_and_one_less(self):
        triangles = moved(tetrahedron(10), 0, 0, 7)
        self.assertEqual(cut(triangles, 6), NOTHING)
        self.assertEqual(cut(triangles, 7), [7, 3, 9, 0, 0, 9, 0, 0])
        self.assertEqual(cut(triangles, 16), [7, 3, 0, 0, 0, 0, 0, 0])
        self.assertEqual(cut(triangles, 17), NOTHING)

    def test_a_corner_between(self):
        # The ring lies at 0: below it the lower triangles are cut, above it the upper ones.
        triangles = double_pyramid(5)
        upper, lower = triangles[::2], triangles[1::2]
        answer = [11, 5, 0, 1, 1, 3, 2, 5, 3, 7, 0, 0]
        for order in [triangles, upper + lower, lower + upper]:
            self.assertEqual(cut(order, -1), answer)
            self.assertEqual(cut(order, 0), answer)
        self.assertEqual(cut(upper[1:] + lower + upper[:1], 0), [11, 5, 1, 3, 2, 5, 3, 7, 0, 0, 0, 1])
        self.assertEqual(cut(upper[1:] + lower + upper[:1], -1), answer)

    def test_below_and_above_all_corners(self):
        triangles = box((-9, -8, -7), (6, 5, 4))
        for z in [-FAR, -1000, -9, -8, 4, 5, 1000, FAR]:
            self.assertEqual(cut(triangles, z), NOTHING, z)
        for z in [-7, -6, 0, 2, 3]:
            self.assertEqual(len(loops_of(cut(triangles, z))), 1, z)

    def test_the_lowest_and_the_highest_layer(self):
        triangles = moved(tetrahedron(2 * FAR), -FAR, -FAR, -FAR)
        self.assertEqual(cut(triangles, -FAR), [7, 3, FAR - 1, -FAR, -FAR, FAR - 1, -FAR, -FAR])
        self.assertEqual(cut(triangles, FAR - 1), [7, 3, -FAR, -FAR, -FAR, -FAR, -FAR, -FAR])
        self.assertEqual(cut(triangles, FAR), NOTHING)
        self.assertEqual(cut(triangles, 0), [7, 3, -1, -FAR, -FAR, -1, -FAR, -FAR])

    def test_no_triangle(self):
        for z in [-FAR, -1, 0, 1, FAR]:
            self.assertEqual(layer(z, PLENTY, [0] * 84), NOTHING)

    def test_a_flat_part(self):
        a, b, c, d = (0, 0, 5), (9, 0, 5), (0, 9, 5), (3, 2, 5)
        triangles = [(a, c, b), (a, b, d), (b, c, d), (c, a, d)]
        for z in [4, 5, 6]:
            self.assertEqual(cut(triangles, z), NOTHING)


class Points(unittest.TestCase):
    def edge_points(self, p, q, z):
        """The point of the edge from p to q as layer tells it, up and down, each corner of the triangle first."""
        r = (p[0] + 17, p[1] - 9, p[2])
        points = []
        for turn in range(3):
            for a, b in [(p, q), (q, p)]:
                triangle = ((a, b, r) + (a, b, r))[turn:turn + 3]
                both = [triangle, triangle[::-1]]
                loop = loops_of(cut(both, z))[0]
                # The two points of the loop: the edge up of the first triangle, and that of the second.
                points.append(loop[0] if a == p else loop[1])
        self.assertEqual(len(set(points)), 1, points)
        return points[0]

    def test_rounded_down(self):
        for q, z, point in [
            ((10, 0, 10), 4, (4, 0)),
            ((10, 20, 10), 4, (4, 9)),
            ((-10, -20, 10), 4, (-5, -9)),
            ((1, 1, 10), 0, (0, 0)),
            ((-1, -1, 10), 0, (-1, -1)),
            ((1, -1, 10), 9, (0, -1)),
            ((3, 7, 1), 0, (1, 3)),
            ((-3, -7, 1), 0, (-2, -4)),
            ((4, -8, 1), 0, (2, -4)),
            ((0, 0, 7), 3, (0, 0)),
            ((-1000, 1000, 3), 1, (-500, 500)),
            ((-1000, 1000, 3), 0, (-167, 166)),
        ]:
            self.assertEqual(self.edge_points((0, 0, 0), q, z), point, (q, z))

    def test_rounded_down_not_toward_the_lower_end(self):
        self.assertEqual(self.edge_points((-5, -5, 0), (5, -15, 4), 0), (-4, -7))
        self.assertEqual(self.edge_points((5, 5, 0), (-5, 15, 4), 0), (3, 6))
        self.assertEqual(self.edge_points((-100, -100, -3), (-103, -97, 4), -1), (-102, -99))

    def test_edges_from_end_to_end(self):
        low, high = (-FAR, FAR, -FAR), (FAR, -FAR, FAR)
        for z in [-FAR, -333333, -1, 0, 1, 777777, FAR - 1]:
            triangles = [(low, high, (7, 8, -FAR)), (high, low, (7, 8, -FAR))]
            self.assertEqual(loops_of(cut(triangles, z))[0][0], (z, -z - 1))


class LeftOut(unittest.TestCase):
    def test_they_are_in_no_loop(self):
        a, b = (700, -800, 9), (-1, 5000, -3)
        for triangle in [(a, a, b), (a, b, a), (b, a, a), (a, a, a)]:
            self.assertEqual(cut([triangle], 4), NOTHING)
            for place in range(5):
                triangles = tetrahedron(10)
                triangles.insert(place, triangle)
                self.assertEqual(cut(triangles, 4), [7, 3, 5, 0, 0, 5, 0, 0])

    def test_even_with_edges_that_are_cut(self):
        o, a, c = tetrahedron(10)[1]
        for triangle in [(a, c, a), (c, a, c), (a, a, c), (o, c, c), (c, o, o)]:
            self.assertEqual(cut([triangle] + tetrahedron(10) + [triangle], 4), [7, 3, 5, 0, 0, 5, 0, 0])


class AgainstTheWords(unittest.TestCase):
    def assert_by_words(self, triangles, heights):
        for z in heights:
            self.assertEqual(cut(triangles, z), layer_by_words(triangles, z), (triangles, z))

    def test_crumpled_skins(self):
        several = 0
        for seed in range(150):
            far = [4, 30, 5000, FAR][seed % 4]
            triangles = crumpled(folded_band(3 + seed % 5) if seed % 2 else double_pyramid(3 + seed % 11), seed, far)
            random.Random(seed).shuffle(triangles)
            if is_closed_by_words(triangles):
                heights = [-far, -far // 2, -1, 0, 1, far // 3, far - 1, far]
                self.assert_by_words(triangles, heights)
                several += sum(len(loops_of(cut(triangles, z))) > 1 for z in heights)
        self.assertGreater(several, 20)

    def test_crumpled_parts_told_by_turns(self):
        for seed in range(20):
            triangles = []
            for part in range(4):
                triangles += crumpled(double_pyramid(4 + part), 100 * seed + part, 400)
            random.Random(seed).shuffle(triangles)
            self.assertTrue(is_closed_by_words(triangles))
            self.assert_by_words(triangles, range(-400, 401, 57))


if __name__ == "__main__":
    unittest.main()
