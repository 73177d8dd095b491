"""Promise 1 as a call: long files, what is handed in, what is given back, nothing kept."""

import random
import time
import unittest

from solidlayers.solid import check
from tests.helper import EMPTY, REFUSED, box, double_pyramid, moved, solid_file, tetrahedron

MOST = 1198
SECONDS = 20


class Untouched(list):
    """A list that fails whoever tries to change it."""

    def refuse(self, *args, **kwargs):
        raise AssertionError("what was handed in is being changed")

    __setitem__ = __delitem__ = __iadd__ = __imul__ = refuse
    append = clear = extend = insert = pop = remove = reverse = sort = refuse


class LongFiles(unittest.TestCase):
    def assert_answer(self, triangles, answer):
        file = solid_file(triangles)
        self.assertTrue(59000 < len(file) <= 60000)
        start = time.perf_counter()
        self.assertEqual(check(file), answer)
        self.assertLess(time.perf_counter() - start, SECONDS)

    def test_one_closed_part(self):
        answer = [1, MOST, 601, 1, 0, 598, 0, 1196, -5000, 5000]
        triangles = double_pyramid(599)
        self.assert_answer(triangles, answer)
        self.assert_answer(triangles[::-1], answer)
        random.Random(5).shuffle(triangles)
        self.assert_answer(triangles, answer)

    def test_many_closed_parts(self):
        triangles = []
        for number in range(299):
            triangles += moved(tetrahedron(), 20 * number, -number, 0)
        answer = [1, 1196, 1196, 299, 0, 20 * 298 + 10, -298, 10, 0, 10]
        self.assert_answer(triangles, answer)
        random.Random(6).shuffle(triangles)
        self.assert_answer(triangles, answer)

    def test_each_triangle_a_part(self):
        triangles = [((k, 0, 0), (k + 1, k % 7 + 1, 0), (k + 2, 0, 5)) for k in range(MOST)]
        self.assert_answer(triangles, [0, MOST, 3 * MOST, MOST, 0, MOST + 1, 0, 7, 0, 5])

    def test_a_long_strip(self):
        row = [(k, k % 2, 0) for k in range(MOST + 2)]
        strip = [(row[k], row[k + 1], row[k + 2]) for k in range(MOST)]
        answer = [0, MOST, MOST + 2, 1, 0, MOST + 1, 0, 1, 0, 0]
        self.assert_answer(strip, answer)
        self.assert_answer(strip[::-1], answer)
        self.assert_answer(strip[::2] + strip[1::2], answer)
        self.assert_answer(strip[1::2] + strip[-2::-2], answer)

    def test_all_round_one_edge(self):
        triangles = [((0, 0, 0), (0, 0, 9), (k + 1, 5, 5)) for k in range(MOST)]
        self.assert_answer(triangles, [0, MOST, MOST + 2, 1, 0, MOST, 0, 5, 0, 9])

    def test_none_that_counts(self):
        self.assert_answer([((k, 0, 0), (k, 0, 0), (0, k, 0)) for k in range(MOST)], EMPTY)


class Calls(unittest.TestCase):
    def files(self):
        return [
            [],
            [0] * 84,
            [0] * 85,
            solid_file(tetrahedron()),
            solid_file(tetrahedron()[:3]),
            solid_file(box((-9, -8, -7), (6, 5, 4))),
            solid_file([((1, 1, 1), (1, 1, 1), (2, 2, 2))]),
            solid_file([((1, 1, 1), (1000001, 1, 1), (2, 2, 2))]),
        ]

    def test_what_was_handed_in_is_as_it_was(self):
        for file in self.files():
            before = list(file)
            check(file)
            self.assertEqual(file, before)

    def test_what_was_handed_in_is_not_changed_for_a_while_either(self):
        for file in self.files():
            self.assertEqual(check(Untouched(file)), check(file))

    def test_called_again(self):
        files = self.files()
        first = [check(file) for file in files]
        self.assertEqual([check(file) for file in files], first)
        self.assertEqual([check(file) for file in files[::-1]], first[::-1])

    def test_changing_an_answer_changes_no_later_one(self):
        for file in self.files():
            answer = check(file)
            kept = list(answer)
            answer.clear()
            self.assertEqual(check(file), kept)

    def test_kinds(self):
        for file in self.files():
            answer = check(file)
            self.assertIs(type(answer), list)
            self.assertEqual({type(number) for number in answer}, {int})
            self.assertTrue(answer == REFUSED or len(answer) == 10)

    def test_by_its_name(self):
        self.assertEqual(check(file=[0] * 84), EMPTY)


if __name__ == "__main__":
    unittest.main()
