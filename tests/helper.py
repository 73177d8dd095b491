"""Builds files of triangles for the tests."""

import struct

REFUSED = [-3]
NOT_CLOSED = [-4]
EMPTY = [1, 0, 0, 0, 0, 0, 0, 0, 0, 0]


class Untouched(list):
    """A list that fails whoever tries to change it."""

    def refuse(self, *args, **kwargs):
        raise AssertionError("what was handed in is being changed")

    __setitem__ = __delitem__ = __iadd__ = __imul__ = refuse
    append = clear = extend = insert = pop = remove = reverse = sort = refuse


class CallRules:
    """What holds for every call, whatever it is asked: a test case gives the call and lists of its arguments, of
    which the last is the file."""

    def call(self, *arguments):
        raise NotImplementedError

    def arguments(self):
        raise NotImplementedError

    def test_what_was_handed_in_is_as_it_was(self):
        for *numbers, file in self.arguments():
            before = list(file)
            self.call(*numbers, file)
            self.assertEqual(file, before)

    def test_what_was_handed_in_is_not_changed_for_a_while_either(self):
        for *numbers, file in self.arguments():
            self.assertEqual(self.call(*numbers, Untouched(file)), self.call(*numbers, file))

    def test_called_again(self):
        arguments = self.arguments()
        first = [self.call(*each) for each in arguments]
        self.assertEqual([self.call(*each) for each in arguments], first)
        self.assertEqual([self.call(*each) for each in arguments[::-1]], first[::-1])

    def test_changing_an_answer_changes_no_later_one(self):
        for each in self.arguments():
            answer = self.call(*each)
            kept = list(answer)
            answer.clear()
            self.assertEqual(self.call(*each), kept)

    def test_kinds(self):
        for each in self.arguments():
            answer = self.call(*each)
            self.assertIs(type(answer), list)
            self.assertEqual({type(number) for number in answer}, {int})


def sample_files():
    """Files of every sort: wrong ones, closed skins and open ones."""
    return [
        [],
        [0] * 84,
        [0] * 85,
        solid_file(tetrahedron()),
        solid_file(tetrahedron()[:3]),
        solid_file(box((-9, -8, -7), (6, 5, 4))),
        solid_file([((1, 1, 1), (1, 1, 1), (2, 2, 2))]),
        solid_file([((1, 1, 1), (1000001, 1, 1), (2, 2, 2))]),
    ]


def single(thousandths):
    """The bits of the single that lies nearest to so many thousandths."""
    return struct.unpack("<I", struct.pack("<f", thousandths / 1000))[0]


def raw_file(triangles, count=None, unread=0):
    """A file of triangles of nine singles' bits each; unread fills every byte that isn't looked at."""
    data = bytes([unread] * 80) + struct.pack("<I", len(triangles) if count is None else count)
    for triangle in triangles:
        data += bytes([unread] * 12) + struct.pack("<9I", *triangle) + bytes([unread] * 2)
    return list(data)


def bits_of(triangle):
    return [single(number) for corner in triangle for number in corner]


def solid_file(triangles, unread=0):
    """A file of triangles whose corners are told in whole thousandths."""
    return raw_file([bits_of(triangle) for triangle in triangles], unread=unread)


def moved(triangles, x, y, z):
    return [tuple((a + x, b + y, c + z) for a, b, c in triangle) for triangle in triangles]


def inside_out(triangles):
    return [triangle[::-1] for triangle in triangles]


def tetrahedron(size=10):
    o, a, b, c = (0, 0, 0), (size, 0, 0), (0, size, 0), (0, 0, size)
    return [(o, b, a), (o, a, c), (o, c, b), (a, b, c)]


def box(low, high):
    """Twelve triangles round a box, corners against the clock as seen from outside."""
    def at(k):
        return tuple((high if k >> axis & 1 else low)[axis] for axis in range(3))
    sides = [(0, 2, 3, 1), (4, 5, 7, 6), (0, 1, 5, 4), (2, 6, 7, 3), (0, 4, 6, 2), (1, 3, 7, 5)]
    triangles = []
    for a, b, c, d in sides:
        triangles += [(at(a), at(b), at(c)), (at(a), at(c), at(d))]
    return triangles


def double_pyramid(sides):
    """A closed skin of twice as many triangles as its ring has sides."""
    ring = [(k, 2 * k, 0) for k in range(sides)]
    top, bottom = (0, 0, 5000), (0, 0, -5000)
    triangles = []
    for k in range(sides):
        here, there = ring[k], ring[(k + 1) % sides]
        triangles += [(here, there, top), (there, here, bottom)]
    return triangles
