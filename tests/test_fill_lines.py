"""Promise 4, the lines: which of them are crossed, where, and in which order that is told."""

import itertools
import random
import unittest

from solidlayers.solid import fill, layer
from tests.helper import (
    FAR, TOO_MANY, box, cone, crumpled, double_pyramid, fill_by_words, folded_band, inside_out, is_closed_by_words,
    moved, ring_solid, solid_file, tetrahedron, two_feet,
)

PLENTY = 999999
NOTHING = [0]


def filled(triangles, z, first, step):
    return fill(z, first, step, PLENTY, solid_file(triangles))


def lines_of(answer):
    """The lines that an answer tells: y and the crossings."""
    lines, place = [], 1
    while place < len(answer):
        y, pairs = answer[place:place + 2]
        lines.append((y, answer[place + 2:place + 2 + 2 * pairs]))
        assert pairs > 0
        place += 2 + 2 * pairs
    assert place == len(answer) == answer[0] + 1
    return lines


def heights_of(answer):
    return [y for y, crossings in lines_of(answer)]


class OneLoop(unittest.TestCase):
    def test_tetrahedron(self):
        # The loop is (5, 0), (0, 5), (0, 0).
        self.assertEqual(
            lines_of(filled(tetrahedron(10), 4, -20, 1)),
            [(0, [0, 4]), (1, [0, 3]), (2, [0, 2]), (3, [0, 1]), (4, [0, 0])],
        )
        self.assertEqual(filled(tetrahedron(10), 4, 0, 2), [12, 0, 1, 0, 4, 2, 1, 0, 2, 4, 1, 0, 0])

    def test_box(self):
        self.assertEqual(
            filled(box((0, 0, 0), (10, 20, 30)), 14, 0, 5),
            [16, 0, 1, 0, 10, 5, 1, 0, 10, 10, 1, 0, 10, 15, 1, 0, 10],
        )

    def test_turned_inside_out(self):
        plain = filled(box((-10, -20, -30), (10, 20, 30)), 14, -100, 7)
        self.assertEqual(filled(inside_out(box((-10, -20, -30), (10, 20, 30))), 14, -100, 7), plain)

    def test_any_order_of_triangles(self):
        plain = filled(tetrahedron(10), 4, 0, 1)
        for triangles in itertools.permutations(tetrahedron(10)):
            self.assertEqual(filled(triangles, 4, 0, 1), plain)

    def test_crossed_four_times(self):
        # The loop is (-3, -8), (0, -1), (2, -8), (4, 0), (2, 7), (0, 1), (-3, 7), (-5, 0).
        self.assertEqual(filled(two_feet(), 5, -5, FAR), [6, -5, 2, -4, -2, 1, 2])
        lines = dict(lines_of(filled(two_feet(), 5, -FAR, 1)))
        self.assertEqual([len(lines[y]) for y in range(-8, 7)], [4] * 7 + [2] * 2 + [4] * 6)
        self.assertEqual(sorted(lines), list(range(-8, 7)))

    def test_crossed_many_times(self):
        # Teeth that stand side by side, and a last point far below them.
        points = [(10 * k, 100 * (k % 2)) for k in range(11)] + [(50, -500)]
        crossings = [5, 14, 25, 34, 45, 54, 65, 74, 85, 94]
        self.assertEqual(filled(cone(points), 0, 50, FAR), [12, 50, 5] + crossings)
        self.assertEqual(filled(cone(points), 0, -600, 1), fill_by_words(cone(points), 0, -600, 1))


class SeveralLoops(unittest.TestCase):
    def test_beside_one_another(self):
        # The loops are (-5, -6), (-3, 0), (-5, 5), (-7, 0) and (6, 0), (4, 5), (3, 0), (4, -6).
        self.assertEqual(filled(two_feet(), 0, 0, 100), [6, 0, 2, -7, -4, 3, 5])
        self.assertEqual(filled(two_feet(), 0, -3, 100), [6, -3, 2, -7, -4, 3, 5])

    def test_order_over_all_loops_of_the_line(self):
        parts = [moved(tetrahedron(10), x, 0, 0) for x in (100, -100, 0)]
        for order in itertools.permutations(parts):
            triangles = [triangle for part in order for triangle in part]
            self.assertEqual(filled(triangles, 4, 1, 100), [8, 1, 3, -100, -97, 0, 3, 100, 103])

    def test_a_hole_within(self):
        outer, inner = tetrahedron(100), inside_out(moved(tetrahedron(20), 10, 10, 10))
        for triangles in [outer + inner, inner + outer]:
            self.assertEqual(filled(triangles, 14, 12, 1000), [6, 12, 2, 0, 10, 22, 72])
            self.assertEqual(filled(triangles, 14, 9, 16)[:9], [20, 9, 1, 0, 75, 25, 1, 0, 59])
            self.assertEqual(heights_of(filled(triangles, 14, -FAR, 1)), list(range(85)))

    def test_a_solid_within_is_no_hole_but_crossings_are_the_same(self):
        outer, inner = tetrahedron(100), moved(tetrahedron(20), 10, 10, 10)
        self.assertEqual(filled(outer + inner, 14, 12, 1000), [6, 12, 2, 0, 10, 22, 72])

    def test_loops_that_overlap(self):
        triangles = box((0, 0, 0), (10, 10, 10)) + box((5, 0, 0), (15, 10, 10))
        self.assertEqual(filled(triangles, 4, 2, 1000), [6, 2, 2, 0, 5, 10, 15])

    def test_loops_on_lines_of_their_own(self):
        triangles = tetrahedron(10) + moved(tetrahedron(10), 50, 200, 0)
        lines = lines_of(filled(triangles, 4, -FAR, 1))
        self.assertEqual([y for y, crossings in lines], [0, 1, 2, 3, 4, 200, 201, 202, 203, 204])
        self.assertEqual(lines[5], (200, [50, 54]))

    def test_two_crossings_at_one_x(self):
        triangles = box((0, 0, 0), (10, 10, 10)) + box((10, 1, 0), (20, 11, 10))
        self.assertEqual(filled(triangles, 4, 2, 1000), [6, 2, 2, 0, 10, 10, 20])
        self.assertEqual(filled(tetrahedron(10), 4, 4, 1), [4, 4, 1, 0, 0])


class WhichLines(unittest.TestCase):
    def heights(self, first, step):
        return heights_of(filled(box((0, -10, 0), (5, 20, 9)), 4, first, step))

    def test_a_loops_point_at_a_line_and_one_above(self):
        # Points lie at y = -10 and y = 20: a line at y runs half a thousandth above y.
        self.assertEqual(self.heights(-11, FAR), [])
        self.assertEqual(self.heights(-10, FAR), [-10])
        self.assertEqual(self.heights(19, FAR), [19])
        self.assertEqual(self.heights(20, FAR), [])
        self.assertEqual(self.heights(21, FAR), [])

    def test_a_point_between(self):
        # At y = 0 a corner of the loop sticks out to either side: both lines beside it meet its two sides.
        lines = dict(lines_of(filled(two_feet(), 10, -FAR, 1)))
        # The loop is (0, -10), (3, 0), (0, 9), (-4, 0).
        self.assertEqual(lines[-1], [-4, 2])
        self.assertEqual(lines[0], [-4, 2])
        self.assertEqual(sorted(lines), list(range(-10, 9)))

    def test_first_below_on_within_and_above(self):
        self.assertEqual(self.heights(-FAR, 1), list(range(-10, 20)))
        self.assertEqual(self.heights(-30, 1), list(range(-10, 20)))
        self.assertEqual(self.heights(-11, 1), list(range(-10, 20)))
        self.assertEqual(self.heights(-10, 1), list(range(-10, 20)))
        self.assertEqual(self.heights(-9, 1), list(range(-9, 20)))
        self.assertEqual(self.heights(7, 1), list(range(7, 20)))
        self.assertEqual(self.heights(19, 1), [19])
        for first in [20, 21, 500, FAR]:
            self.assertEqual(self.heights(first, 1), [])

    def test_steps(self):
        for first in range(-45, 25):
            for step in [1, 2, 3, 7, 10, 29, 30, 31, 32, 1000, FAR]:
                expected = [y for y in range(first, 100, step) if -10 <= y < 20]
                self.assertEqual(self.heights(first, step), expected, (first, step))

    def test_a_step_that_jumps_over_all(self):
        self.assertEqual(self.heights(-11, 31), [])
        self.assertEqual(self.heights(-11, 30), [19])
        self.assertEqual(self.heights(-500, FAR), [])
        self.assertEqual(self.heights(-FAR, FAR), [0])

    def test_up_to_the_end(self):
        triangles = box((0, FAR - 50, 0), (5, FAR, 9))
        for back, step, expected in [
            (10, 5, [-10, -5]), (10, 10, [-10]), (10, 3, [-10, -7, -4, -1]), (10, 9, [-10, -1]), (10, 11, [-10]),
            (1, 1, [-1]), (1, FAR, [-1]), (0, 1, []), (0, FAR, []), (2, 1, [-2, -1]), (60, 20, [-40, -20]),
        ]:
            heights = heights_of(filled(triangles, 4, FAR - back, step))
            self.assertEqual(heights, [FAR + y for y in expected], (back, step))

    def test_from_end_to_end(self):
        triangles = box((0, -FAR, 0), (5, FAR, 9))
        for first, step in [
            (-FAR, FAR), (-FAR, 999999), (-FAR, 400000), (-FAR, 333333), (0, FAR), (FAR, 1), (FAR - 1, 1), (-1, FAR),
            (1, 999999), (1, 999998), (-FAR, 7919),
        ]:
            expected = list(range(first, FAR, step))
            answer = filled(triangles, 4, first, step)
            self.assertEqual(lines_of(answer), [(y, [0, 5]) for y in expected])

    def test_the_first_line_of_all(self):
        triangles = moved(tetrahedron(2 * FAR), -FAR, -FAR, -FAR)
        # The loop at the lowest layer is (999999, -1000000), (-1000000, 999999), (-1000000, -1000000).
        self.assertEqual(
            filled(triangles, -FAR, -FAR, FAR), [8, -FAR, 1, -FAR, FAR - 2, 0, 1, -FAR, -2],
        )
        self.assertEqual(filled(triangles, -FAR, FAR - 2, 1), [4, FAR - 2, 1, -FAR, -FAR])
        self.assertEqual(filled(triangles, -FAR, FAR - 1, 1), NOTHING)

    def test_lines_that_cross_nothing_are_not_told(self):
        self.assertEqual(filled(tetrahedron(10), 4, 5, 1), NOTHING)
        self.assertEqual(filled(tetrahedron(10), 4, -100, 7), NOTHING)
        self.assertEqual(filled(tetrahedron(10), 4, -100, 17), [4, 2, 1, 0, 2])

    def test_no_loop(self):
        for z in [-1, 10, -FAR, FAR]:
            self.assertEqual(filled(tetrahedron(10), z, -FAR, 1), NOTHING)

    def test_no_triangle(self):
        for z, first, step in [(0, 0, 1), (-FAR, -FAR, 1), (FAR, FAR, FAR), (0, -FAR, 1)]:
            self.assertEqual(fill(z, first, step, PLENTY, [0] * 84), NOTHING)


class Crossings(unittest.TestCase):
    def crossings(self, points, y):
        """Where the line at y crosses a loop of these points."""
        triangles = cone(points)
        flat = [number for point in points for number in point]
        self.assertEqual(layer(0, PLENTY, solid_file(triangles)), [1 + len(flat), len(points)] + flat)
        answer = filled(triangles, 0, y, FAR)
        self.assertEqual(answer[:3], [len(answer) - 1, y, (len(answer) - 3) // 2])
        return answer[3:]

    def test_rounded_down(self):
        self.assertEqual(self.crossings([(0, 0), (10, 4), (0, 4)], 0), [0, 1])
        self.assertEqual(self.crossings([(0, 0), (10, 4), (0, 4)], 1), [0, 3])
        self.assertEqual(self.crossings([(0, 0), (10, 4), (0, 4)], 3), [0, 8])
        self.assertEqual(self.crossings([(0, 0), (10, 5), (0, 5)], 0), [0, 1])
        self.assertEqual(self.crossings([(0, 0), (10, 5), (0, 5)], 4), [0, 9])

    def test_rounded_down_where_they_are_negative(self):
        self.assertEqual(self.crossings([(0, 0), (-10, 4), (0, 4)], 0), [-2, 0])
        self.assertEqual(self.crossings([(0, 0), (-10, 4), (0, 4)], 3), [-9, 0])
        self.assertEqual(self.crossings([(0, 0), (-10, 5), (0, 5)], 0), [-1, 0])
        self.assertEqual(self.crossings([(0, 0), (-1, 100), (0, 100)], 0), [-1, 0])
        self.assertEqual(self.crossings([(-7, -8), (-10, 2), (20, 2)], -3), [-9, 7])
        self.assertEqual(self.crossings([(-7, -8), (-10, 2), (-9, 2)], -3), [-9, -9])

    def test_lower_end_first_and_second(self):
        for points in [[(3, -7), (-20, 30), (50, 11)], [(0, 500000), (-500000, -500000), (499999, -3)]]:
            for y in [-3, 0, 10]:
                plain = self.crossings(points, y)
                for order in itertools.permutations(points):
                    self.assertEqual(self.crossings(list(order), y), plain)

    def test_the_side_from_the_last_point_to_the_first(self):
        # Whichever point the loop begins with, and whichever way it goes round.
        points = [(0, 0), (10, -3), (20, 7), (5, 30), (-6, 11)]
        plain = filled(cone(points), 0, -10, 1)
        self.assertEqual(heights_of(plain), list(range(-3, 30)))
        self.assertEqual(dict(lines_of(plain))[3], [-2, 16])
        for places in range(5):
            turned = points[places:] + points[:places]
            self.assertEqual(filled(cone(turned), 0, -10, 1), plain)
            self.assertEqual(filled(cone(turned[::-1]), 0, -10, 1), plain)

    def test_level_sides_are_not_crossed(self):
        for y in [-1, 6]:
            self.assertEqual(filled(cone([(0, 0), (10, 0), (10, 6), (0, 6)]), 0, y, FAR), NOTHING)
        self.assertEqual(filled(cone([(0, 0), (10, 0), (10, 6), (0, 6)]), 0, 0, 5), [8, 0, 1, 0, 10, 5, 1, 0, 10])

    def test_from_end_to_end(self):
        low, high = (-FAR, -FAR, 0), (FAR, FAR, 0)
        triangles = ring_solid([low, high, (-FAR, FAR, 0)], (-FAR, FAR, FAR), (-FAR, FAR, -FAR))
        for y in [-FAR, -1, 0, 1, FAR - 1]:
            self.assertEqual(filled(triangles, -1, y, 7777), fill_by_words(triangles, -1, y, 7777))


class Flattened(unittest.TestCase):
    """Loops whose points, once rounded down, lie on one line or on one another."""

    def test_on_one_another(self):
        self.assertEqual(layer(9, PLENTY, solid_file(tetrahedron(10))), [7, 3, 0, 0, 0, 0, 0, 0])
        self.assertEqual(filled(tetrahedron(10), 9, -FAR, 1), NOTHING)

    def test_on_one_level_line(self):
        triangles = cone([(0, 3), (10, 3), (70, 3), (-4, 3)])
        for y in [2, 3, 4]:
            self.assertEqual(filled(triangles, 0, y, FAR), NOTHING)

    def test_on_one_upright_line(self):
        triangles = cone([(-5, 0), (-5, 10), (-5, 7), (-5, 12)])
        answer = filled(triangles, 0, -20, 1)
        self.assertEqual(
            lines_of(answer), [(y, [-5] * (4 if 7 <= y < 10 else 2)) for y in range(12)],
        )

    def test_on_one_slanting_line(self):
        self.assertEqual(filled(cone([(0, 0), (9, 3), (6, 2)]), 0, 0, 1), [12, 0, 1, 1, 1, 1, 1, 4, 4, 2, 1, 7, 7])

    def test_two_points_alone(self):
        a, b, c = (0, 0, 0), (10, 0, 10), (0, 20, 10)
        # The loop is (4, 0), (0, 9).
        expected = [4 - (4 * (2 * y + 1) + 17) // 18 for y in range(9)]
        answer = filled([(a, b, c), (a, c, b)], 4, -5, 1)
        self.assertEqual(lines_of(answer), [(y, [x, x]) for y, x in enumerate(expected)])

    def test_sides_that_cross_one_another(self):
        # A bow tie: what its sides cross is told in order, not by side.
        triangles = cone([(0, 0), (10, 10), (0, 10), (10, 0)])
        self.assertEqual(filled(triangles, 0, 2, 5), [8, 2, 1, 2, 7, 7, 1, 2, 7])
        self.assertEqual(filled(triangles, 0, 4, 5), [8, 4, 1, 4, 5, 9, 1, 0, 9])


class LeftOut(unittest.TestCase):
    def test_triangles_that_do_not_count_cross_nothing(self):
        a, b = (700, -800, 9), (-1, 5000, -3)
        plain = filled(tetrahedron(10), 4, -FAR, 1)
        for triangle in [(a, a, b), (a, b, a), (b, a, a), (a, a, a)]:
            self.assertEqual(filled([triangle], 4, -FAR, 1), NOTHING)
            self.assertEqual(filled([triangle] + tetrahedron(10) + [triangle], 4, -FAR, 1), plain)


class AgainstTheWords(unittest.TestCase):
    def assert_by_words(self, triangles, z, first, step):
        file = solid_file(triangles)
        answer = fill(z, first, step, PLENTY, file)
        self.assertEqual(answer, fill_by_words(triangles, z, first, step), (triangles, z, first, step))
        self.assertEqual(fill(z, first, step, answer[0], file), answer)
        if answer[0] > 0:
            self.assertEqual(fill(z, first, step, answer[0] - 1, file), TOO_MANY)
        return max([pairs for y, pairs in lines_of(answer)], key=len, default=[])

    def test_crumpled_skins(self):
        made = random.Random(60)
        widest = 0
        for seed in range(200):
            far = [4, 30, 500, FAR][seed % 4]
            triangles = crumpled(folded_band(3 + seed % 7) if seed % 3 else double_pyramid(3 + seed % 11), seed, far)
            made.shuffle(triangles)
            if is_closed_by_words(triangles):
                for z in [-far // 2, 0, far // 3]:
                    step = made.randint(max(1, far // 200), max(1, far // 20))
                    first = made.randint(max(-FAR, -2 * far), far)
                    widest = max(widest, len(self.assert_by_words(triangles, z, first, step)))
        self.assertGreater(widest, 8)

    def test_crumpled_parts(self):
        for seed in range(20):
            triangles = []
            for part in range(4):
                triangles += crumpled(double_pyramid(4 + part), 100 * seed + part, 300)
            self.assertTrue(is_closed_by_words(triangles))
            for z, first, step in [(0, -400, 1), (-50, -FAR, 7), (90, 20, 11), (10, -299, 299)]:
                self.assert_by_words(triangles, z, first, step)


if __name__ == "__main__":
    unittest.main()
