"""Builds files of triangles for the tests."""

import math
import random
import struct
from fractions import Fraction

REFUSED = [-3]
NOT_CLOSED = [-4]
OUT_OF_RANGE = [-2]
TOO_MANY = [-1]
FAR = 1000000
LEAST_INT, GREATEST_INT = -2147483648, 2147483647
EMPTY = [1, 0, 0, 0, 0, 0, 0, 0, 0, 0]


class Untouched(list):
    """A list that fails whoever tries to change it."""

    def refuse(self, *args, **kwargs):
        raise AssertionError("what was handed in is being changed")

    __setitem__ = __delitem__ = __iadd__ = __imul__ = refuse
    append = clear = extend = insert = pop = remove = reverse = sort = refuse


class CallRules:
    """What holds for every call, whatever it is asked: a test case gives the call and lists of its arguments, of
    which the last is the file."""

    def call(self, *arguments):
        raise NotImplementedError

    def arguments(self):
        raise NotImplementedError

    def test_what_was_handed_in_is_as_it_was(self):
        for *numbers, file in self.arguments():
            before = list(file)
            self.call(*numbers, file)
            self.assertEqual(file, before)

    def test_what_was_handed_in_is_not_changed_for_a_while_either(self):
        for *numbers, file in self.arguments():
            self.assertEqual(self.call(*numbers, Untouched(file)), self.call(*numbers, file))

    def test_called_again(self):
        arguments = self.arguments()
        first = [self.call(*each) for each in arguments]
        self.assertEqual([self.call(*each) for each in arguments], first)
        self.assertEqual([self.call(*each) for each in arguments[::-1]], first[::-1])

    def test_changing_an_answer_changes_no_later_one(self):
        for each in self.arguments():
            answer = self.call(*each)
            kept = list(answer)
            answer.clear()
            self.assertEqual(self.call(*each), kept)

    def test_kinds(self):
        for each in self.arguments():
            answer = self.call(*each)
            self.assertIs(type(answer), list)
            self.assertEqual({type(number) for number in answer}, {int})


def sample_files():
    """Files of every sort: wrong ones, closed skins and open ones."""
    return [
        [],
        [0] * 84,
        [0] * 85,
        solid_file(tetrahedron()),
        solid_file(tetrahedron()[:3]),
        solid_file(box((-9, -8, -7), (6, 5, 4))),
        solid_file([((1, 1, 1), (1, 1, 1), (2, 2, 2))]),
        solid_file([((1, 1, 1), (1000001, 1, 1), (2, 2, 2))]),
    ]


def single(thousandths):
    """The bits of the single that lies nearest to so many thousandths."""
    return struct.unpack("<I", struct.pack("<f", thousandths / 1000))[0]


def raw_file(triangles, count=None, unread=0):
    """A file of triangles of nine singles' bits each; unread fills every byte that isn't looked at."""
    data = bytes([unread] * 80) + struct.pack("<I", len(triangles) if count is None else count)
    for triangle in triangles:
        data += bytes([unread] * 12) + struct.pack("<9I", *triangle) + bytes([unread] * 2)
    return list(data)


def bits_of(triangle):
    return [single(number) for corner in triangle for number in corner]


def solid_file(triangles, unread=0):
    """A file of triangles whose corners are told in whole thousandths."""
    return raw_file([bits_of(triangle) for triangle in triangles], unread=unread)


def moved(triangles, x, y, z):
    return [tuple((a + x, b + y, c + z) for a, b, c in triangle) for triangle in triangles]


def inside_out(triangles):
    return [triangle[::-1] for triangle in triangles]


def tetrahedron(size=10):
    o, a, b, c = (0, 0, 0), (size, 0, 0), (0, size, 0), (0, 0, size)
    return [(o, b, a), (o, a, c), (o, c, b), (a, b, c)]


def box(low, high):
    """Twelve triangles round a box, corners against the clock as seen from outside."""
    def at(k):
        return tuple((high if k >> axis & 1 else low)[axis] for axis in range(3))
    sides = [(0, 2, 3, 1), (4, 5, 7, 6), (0, 1, 5, 4), (2, 6, 7, 3), (0, 4, 6, 2), (1, 3, 7, 5)]
    triangles = []
    for a, b, c, d in sides:
        triangles += [(at(a), at(b), at(c)), (at(a), at(c), at(d))]
    return triangles


def ring_solid(ring, top, bottom):
    """A closed skin round a ring of corners, against the clock as seen from the top."""
    triangles = []
    for k, here in enumerate(ring):
        there = ring[(k + 1) % len(ring)]
        triangles += [(here, there, top), (there, here, bottom)]
    return triangles


def double_pyramid(sides):
    """A closed skin of twice as many triangles as its ring has sides."""
    return ring_solid([(k, 2 * k, 0) for k in range(sides)], (0, 0, 5000), (0, 0, -5000))


def two_feet():
    """One part that stands on two feet: up to 4 it has two loops, from 5 on just one."""
    return ring_solid([(-10, 0, -10), (0, -10, 10), (10, 0, -10), (0, 10, 10)], (0, 0, 20), (0, 0, 5))


def cone(points):
    """A closed skin whose layer at 0 is one loop of just these points, beginning with the first."""
    # From a tip at 0 to a ring at 1 and twice as far out, the layer lies half the way.
    ring = [(2 * x, 2 * y, 1) for x, y in points[-1:] + points[:-1]]
    return ring_solid(ring, (0, 0, 2), (0, 0, 0))


def folded_band(half):
    """A closed skin of four times as many triangles as half, all of them cut between its low and its high corners, and
    one loop through all of them: a band whose lower rim is folded onto itself, and its upper rim a bit further on."""
    low = [(100 * k, k * k % 97 - 60, -1000 - k) for k in range(half + 1)]
    high = [(100 * k + 30, 50 - k * k % 89, 1000 + k % 7) for k in range(half + 1)]

    def at(rim, place):
        place %= 2 * half
        return rim[min(place, 2 * half - place)]
    triangles = []
    for k in range(2 * half):
        here, there = at(low, k), at(low, k + 1)
        above, beyond = at(high, k + half // 2), at(high, k + 1 + half // 2)
        triangles += [(here, there, above), (there, beyond, above)]
    return triangles


def crumpled(triangles, seed, far):
    """The same skin with its corners put anywhere: as closed as before, unless two come to lie in one place."""
    made = random.Random(seed)
    places = {}
    for triangle in triangles:
        for corner in triangle:
            places.setdefault(corner, tuple(made.randint(-far, far) for axis in range(3)))
    return [tuple(places[corner] for corner in triangle) for triangle in triangles]


def is_closed_by_words(triangles):
    edges = [edge for t in triangles if len(set(t)) == 3 for edge in zip(t, t[1:] + t[:1])]
    return len(set(edges)) == len(edges) and all((b, a) in edges for a, b in edges)


def where(p, q, axis, level, asked):
    """Where the way from p to q reaches a level and a half, rounded down, by exact fractions."""
    share = (level + Fraction(1, 2) - p[axis]) / (q[axis] - p[axis])
    return math.floor(p[asked] + (q[asked] - p[asked]) * share)


def loops_by_words(triangles, z):
    """The loops of a closed skin, told from the document's words by the slowest way."""
    cut = []
    for t in triangles:
        if len(set(t)) == 3 and min(c[2] for c in t) < z + Fraction(1, 2) < max(c[2] for c in t):
            edges = list(zip(t, t[1:] + t[:1]))
            up = [(p, q) for p, q in edges if p[2] <= z < q[2]]
            down = [(p, q) for p, q in edges if q[2] <= z < p[2]]
            assert len(up) == len(down) == 1
            cut.append((up[0], down[0]))
    loops, done = [], []
    for number in range(len(cut)):
        if number not in done:
            loop, here = [], number
            while not loop or here != number:
                done.append(here)
                (p, q), down = cut[here]
                loop.append((where(p, q, 2, z, 0), where(p, q, 2, z, 1)))
                here = [down for up, down in cut].index((q, p))
            loops.append(loop)
    return loops


def layer_by_words(triangles, z):
    numbers = []
    for loop in loops_by_words(triangles, z):
        numbers += [len(loop)] + [number for point in loop for number in point]
    return [len(numbers)] + numbers


def fill_by_words(triangles, z, first, step):
    """The lines of a closed skin's layer, told from the document's words by the slowest way."""
    loops = loops_by_words(triangles, z)
    sides = [side for loop in loops for side in zip(loop, loop[1:] + loop[:1])]
    heights = [point[1] for loop in loops for point in loop] or [0]
    least, greatest = min(heights), max(heights)
    numbers = []
    # Lines above all points and below all of them cross nothing.
    for y in [y for y in range(first, min(FAR, greatest) + 1, step) if least <= y]:
        crossings = []
        for p, q in sides:
            if min(p[1], q[1]) < y + Fraction(1, 2) < max(p[1], q[1]):
                crossings.append(where(*sorted((p, q), key=lambda point: point[1]), 1, y, 0))
        assert len(crossings) % 2 == 0
        if crossings:
            numbers += [y, len(crossings) // 2] + sorted(crossings)
    return [len(numbers)] + numbers
