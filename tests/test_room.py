"""Promise 2: six times the room inside, with sign, modulo 2^128."""

import time
import unittest

from solidlayers.solid import room
from tests.helper import (
    FAR, NOT_CLOSED, REFUSED, CallRules, bits_of, box, crumpled, double_pyramid, inside_out, is_closed_by_words, moved,
    raw_file, sample_files, single, solid_file, tetrahedron,
)

SECONDS = 20
NOTHING = [0, 0, 0]


def answer_for(six_times):
    """The answer that tells a room, by way of its 128 bits."""
    return [0, six_times & (1 << 64) - 1, six_times >> 64 & (1 << 64) - 1]


def six_times_box(low, high):
    return 6 * (high[0] - low[0]) * (high[1] - low[1]) * (high[2] - low[2])


def added(triangles):
    """The room by another way than the document's: the volume between each triangle and the floor."""
    total = 0
    for (ax, ay, az), (bx, by, bz), (cx, cy, cz) in triangles:
        total += ((bx - ax) * (cy - ay) - (cx - ax) * (by - ay)) * (az + bz + cz)
    return total


class Ordinary(unittest.TestCase):
    def assert_room(self, triangles, six_times):
        self.assertEqual(room(solid_file(triangles)), answer_for(six_times))

    def test_tetrahedron(self):
        self.assertEqual(room(solid_file(tetrahedron(10))), [0, 1000, 0])

    def test_box(self):
        self.assertEqual(room(solid_file(box((0, 0, 0), (2, 3, 5)))), [0, 180, 0])

    def test_inside_out(self):
        self.assertEqual(room(solid_file(inside_out(tetrahedron(10)))), [0, 2 ** 64 - 1000, 2 ** 64 - 1])
        self.assertEqual(room(solid_file(inside_out(box((0, 0, 0), (2, 3, 5))))), [0, 2 ** 64 - 180, 2 ** 64 - 1])

    def test_the_least_rooms(self):
        self.assertEqual(room(solid_file(tetrahedron(1))), [0, 1, 0])
        self.assertEqual(room(solid_file(inside_out(tetrahedron(1)))), [0, 2 ** 64 - 1, 2 ** 64 - 1])

    def test_moved_elsewhere(self):
        for x, y, z in [(7, 0, 0), (0, -8, 0), (0, 0, 9), (-500, 600, -700), (999990, -FAR, 999990)]:
            self.assert_room(moved(tetrahedron(10), x, y, z), 1000)
            self.assert_room(inside_out(moved(tetrahedron(10), x, y, z)), -1000)

    def test_lengths_of_its_own_on_each_axis(self):
        low, high = (-70, 20, -5000), (-30, 111, 999)
        self.assert_room(box(low, high), six_times_box(low, high))

    def test_any_corner_first_and_any_order(self):
        triangles = box((-4, 5, -6), (7, 8, 9))
        turned = [t[k % 3:] + t[:k % 3] for k, t in enumerate(triangles)]
        self.assert_room(turned, 6 * 11 * 3 * 15)
        self.assert_room(turned[::-1], 6 * 11 * 3 * 15)

    def test_several_parts_are_added(self):
        triangles = tetrahedron(10) + moved(tetrahedron(7), -100, 50, 3) + box((200, -9, -8), (201, -7, -6))
        self.assert_room(triangles, 1000 + 343 + 24)

    def test_a_part_within_another(self):
        outer, inner = box((-50, -50, -50), (50, 50, 50)), box((-5, -5, -5), (5, 5, 6))
        self.assert_room(outer + inside_out(inner), 6 * (1000000 - 1100))
        self.assert_room(outer + inner, 6 * (1000000 + 1100))
        self.assert_room(inside_out(outer) + inner, 6 * (1100 - 1000000))

    def test_rounded_coordinates_are_what_counts(self):
        triangles = [tuple(tuple(number + 0.3 for number in corner) for corner in t) for t in tetrahedron(10)]
        self.assert_room(triangles, 1000)

    def test_against_another_way(self):
        closed = 0
        for seed in range(200):
            triangles = crumpled(double_pyramid(3 + seed % 12), seed, [3, 100, 5000, FAR][seed % 4])
            if is_closed_by_words(triangles):
                closed += 1
                self.assert_room(triangles, added(triangles))
            else:
                self.assertEqual(room(solid_file(triangles)), NOT_CLOSED, triangles)
        self.assertTrue(150 < closed < 200)


class Great(unittest.TestCase):
    def test_more_than_32_bits(self):
        low, high = (-1000, -1000, -1000), (1000, 1000, 1000)
        self.assertEqual(room(solid_file(box(low, high))), [0, 48000000000, 0])
        self.assertEqual(room(solid_file(inside_out(box(low, high)))), [0, 2 ** 64 - 48000000000, 2 ** 64 - 1])

    def test_the_greatest_box(self):
        triangles = box((-FAR, -FAR, -FAR), (FAR, FAR, FAR))
        six_times = 48 * 10 ** 18
        self.assertEqual(room(solid_file(triangles)), [0, six_times - 2 * 2 ** 64, 2])
        self.assertEqual(room(solid_file(inside_out(triangles))), [0, 3 * 2 ** 64 - six_times, 2 ** 64 - 3])

    def test_a_tetrahedron_from_end_to_end(self):
        triangles = moved(tetrahedron(2 * FAR), -FAR, -FAR, -FAR)
        self.assertEqual(room(solid_file(triangles)), answer_for(8 * 10 ** 18))

    def test_between_63_and_64_bits(self):
        # The lower number is no signed one: its upmost bit may be there, and the upper number still 0.
        triangles = box((-FAR, -FAR, -FAR), (FAR, FAR, -FAR + 600000))
        self.assertEqual(room(solid_file(triangles)), [0, 144 * 10 ** 17, 0])
        self.assertEqual(room(solid_file(inside_out(triangles))), [0, 2 ** 64 - 144 * 10 ** 17, 2 ** 64 - 1])

    def test_many_great_parts(self):
        triangles = []
        six_times = 0
        for number in range(90):
            low, high = (-FAR + number, -FAR, -FAR), (FAR - number, FAR - number, FAR)
            triangles += box(low, high)
            six_times += six_times_box(low, high)
        self.assertGreater(six_times, 230 * 2 ** 64)
        self.assertEqual(room(solid_file(triangles)), answer_for(six_times))
        self.assertEqual(room(solid_file(inside_out(triangles))), answer_for(-six_times))


class NoRoom(unittest.TestCase):
    def test_no_triangle(self):
        self.assertEqual(room([0] * 84), NOTHING)
        self.assertEqual(room([255] * 80 + [0] * 4), NOTHING)

    def test_both_sides_of_one_triangle(self):
        a, b, c = (1, 2, 3), (4, 5, 6), (7, 8, 10)
        self.assertEqual(room(solid_file([(a, b, c), (a, c, b)])), NOTHING)

    def test_all_corners_in_one_plane(self):
        a, b, c, d = (0, 0, 5), (9, 0, 14), (0, 9, -13), (3, 2, 4)
        self.assertEqual(room(solid_file([(a, c, b), (a, b, d), (b, c, d), (c, a, d)])), NOTHING)

    def test_rooms_that_take_one_another_away(self):
        triangles = tetrahedron(10) + inside_out(moved(tetrahedron(10), 40, 0, 0))
        self.assertEqual(room(solid_file(triangles)), NOTHING)


class LeftOut(unittest.TestCase):
    def test_they_add_nothing(self):
        a, b = (700, -800, 900), (-1, 5000, -3)
        for triangle in [(a, a, b), (a, b, a), (b, a, a), (a, a, a)]:
            self.assertEqual(room(solid_file([triangle])), NOTHING)
            for place in range(5):
                triangles = tetrahedron(10)
                triangles.insert(place, triangle)
                self.assertEqual(room(solid_file(triangles)), [0, 1000, 0])

    def test_their_edges_are_no_edges(self):
        a, b = tetrahedron()[0][:2]
        for triangle in [(a, a, b), (a, b, a), (b, a, a), (b, b, a), (a, a, a)]:
            self.assertEqual(room(solid_file(tetrahedron() + [triangle] * 3)), [0, 1000, 0])

    def test_one_only_after_rounding(self):
        triangle = ((5, 5, 5), (5.3, 4.8, 5), (90, 90, 90))
        self.assertEqual(room(solid_file(tetrahedron() + [triangle])), [0, 1000, 0])

    def test_their_edges_close_nothing(self):
        a, b, c = (0, 0, 0), (9, 0, 0), (0, 9, 0)
        self.assertEqual(room(solid_file([(a, b, c), (b, a, b), (c, b, c), (a, c, a)])), NOT_CLOSED)


class Refusals(unittest.TestCase):
    def test_a_wrong_file(self):
        whole = solid_file(tetrahedron())
        for length in [*range(84), *range(85, 140)]:
            self.assertEqual(room([0] * length), REFUSED, length)
        for length in range(len(whole)):
            self.assertEqual(room(whole[:length]), REFUSED, length)
        self.assertEqual(room(whole + [0]), REFUSED)

    def test_a_wrong_coordinate(self):
        good = [bits_of(triangle) for triangle in tetrahedron()]
        for wrong in [single(FAR + 1), single(-FAR - 1), 0x7F800000, 0xFF800000, 0x7FC00000]:
            for number in range(4):
                for place in range(9):
                    triangles = [list(triangle) for triangle in good]
                    triangles[number][place] = wrong
                    self.assertEqual(room(raw_file(triangles)), REFUSED)

    def test_an_edge_that_is_there_twice(self):
        self.assertEqual(room(solid_file(tetrahedron() + tetrahedron())), NOT_CLOSED)
        for triangle in tetrahedron():
            self.assertEqual(room(solid_file(tetrahedron() + [triangle])), NOT_CLOSED)
        a, b, c = (1, 2, 3), (4, 5, 6), (7, 8, 10)
        self.assertEqual(room(solid_file([(a, b, c), (a, c, b), (a, b, c)])), NOT_CLOSED)

    def test_an_edge_whose_other_way_is_missing(self):
        whole = box((0, 0, 0), (10, 10, 10))
        for number in range(len(whole)):
            self.assertEqual(room(solid_file(whole[:number] + whole[number + 1:])), NOT_CLOSED)
        self.assertEqual(room(solid_file(whole[:1])), NOT_CLOSED)

    def test_one_triangle_turned_over(self):
        for number in range(4):
            triangles = tetrahedron()
            triangles[number] = triangles[number][::-1]
            self.assertEqual(room(solid_file(triangles)), NOT_CLOSED)

    def test_one_part_closed_beside_one_that_is_not(self):
        triangles = tetrahedron() + moved(tetrahedron(), 100, 0, 0)[:3]
        self.assertEqual(room(solid_file(triangles)), NOT_CLOSED)

    def test_wrong_and_not_closed_either(self):
        open_skin = solid_file(tetrahedron()[:3])
        self.assertEqual(room(open_skin), NOT_CLOSED)
        self.assertEqual(room(open_skin + [0]), REFUSED)
        self.assertEqual(room(open_skin[:-1]), REFUSED)
        triangles = [bits_of(triangle) for triangle in tetrahedron() + tetrahedron()]
        triangles[-1][-1] = 0x7FC00000
        self.assertEqual(room(raw_file(triangles)), REFUSED)


class LongFiles(unittest.TestCase):
    def assert_answer(self, triangles, answer):
        file = solid_file(triangles)
        self.assertTrue(59000 < len(file) <= 60000)
        start = time.perf_counter()
        self.assertEqual(room(file), answer)
        self.assertLess(time.perf_counter() - start, SECONDS)

    def test_one_part(self):
        triangles = double_pyramid(599)
        self.assert_answer(triangles, answer_for(added(triangles)))

    def test_many_parts(self):
        triangles = []
        for number in range(299):
            triangles += moved(tetrahedron(), 20 * number, -number, 0)
        self.assert_answer(triangles, [0, 299000, 0])

    def test_an_edge_missing_at_the_end(self):
        triangles = double_pyramid(599)
        self.assert_answer(triangles[:-1], NOT_CLOSED)


class Calls(CallRules, unittest.TestCase):
    def call(self, file):
        return room(file)

    def arguments(self):
        return [[file] for file in sample_files() + [solid_file(inside_out(tetrahedron()))]]

    def test_how_many_numbers(self):
        for file in sample_files():
            answer = room(file)
            self.assertTrue(answer in (REFUSED, NOT_CLOSED) or (len(answer) == 3 and answer[0] == 0))

    def test_by_its_name(self):
        self.assertEqual(room(file=[0] * 84), NOTHING)


if __name__ == "__main__":
    unittest.main()
