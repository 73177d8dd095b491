"""What a file of triangles tells of a solid thing's skin, in whole thousandths."""

MORE_THAN_MOST = -1
OUT_OF_RANGE = -2
FILE_IS_WRONG = -3
SKIN_IS_OPEN = -4

COUNT_START = 80
TRIANGLES_START = 84
TRIANGLE_BYTES = 50
FIRST_CORNER = 12
CORNER_BYTES = 12
SINGLE_BYTES = 4
MOST_TRIANGLES = 20000
FARTHEST = 1000000

X = 0
Y = 1
Z = 2

# The parts of a single's 32 bits: sign, 8 bits of exponent, 23 bits of fraction.
FRACTION_BITS = 23
HIDDEN_BIT = 8388608
WHOLE_EXPONENT = 150


class WrongFile(Exception):
    pass


class OpenSkin(Exception):
    pass


def check(file):
    try:
        triangles = read_triangles(file)
    except WrongFile:
        return [FILE_IS_WRONG]
    corners = different_corners(triangles)
    closed = 1 if is_closed(triangles) else 0
    return [closed, len(triangles), len(corners), count_parts(triangles)] + bounds(corners)


def room(file):
    try:
        triangles = read_closed_skin(file)
    except WrongFile:
        return [FILE_IS_WRONG]
    except OpenSkin:
        return [SKIN_IS_OPEN]
    six_times = sum([determinant(triangle) for triangle in triangles])
    # A remainder is never negative here, and a shift rounds down: so a negative room comes out modulo 2^128 by itself.
    return [0, six_times % 2 ** 64, (six_times >> 64) % 2 ** 64]


def layer(z, most, file):
    if not is_within_reach(z) or most < 0:
        return [OUT_OF_RANGE]
    try:
        triangles = read_closed_skin(file)
    except WrongFile:
        return [FILE_IS_WRONG]
    except OpenSkin:
        return [SKIN_IS_OPEN]
    numbers = loop_numbers(cut_loops(triangles, z))
    if len(numbers) > most:
        return [MORE_THAN_MOST]
    return [len(numbers)] + numbers


def fill(z, first, step, most, file):
    if not (is_within_reach(z) and is_within_reach(first) and 1 <= step <= FARTHEST and most >= 0):
        return [OUT_OF_RANGE]
    try:
        triangles = read_closed_skin(file)
    except WrongFile:
        return [FILE_IS_WRONG]
    except OpenSkin:
        return [SKIN_IS_OPEN]
    sides = rising_sides(cut_loops(triangles, z))
    # Counted before any is told: a small file may have a thousand million crossings, far more than there is room for.
    if count_line_numbers(sides, first, step) > most:
        return [MORE_THAN_MOST]
    numbers = line_numbers(crossings_by_line(sides, first, step))
    return [len(numbers)] + numbers


def is_within_reach(number):
    return -FARTHEST <= number <= FARTHEST


def read_closed_skin(file):
    triangles = read_triangles(file)
    if not is_closed(triangles):
        raise OpenSkin()
    return triangles


def read_triangles(file):
    triangles = []
    for number in range(read_count(file)):
        # Read before it is asked whether it counts: a wrong coordinate makes the file wrong either way.
        triangle = read_triangle(file, TRIANGLES_START + TRIANGLE_BYTES * number)
        if counts(triangle):
            triangles.append(triangle)
    return triangles


def read_count(file):
    if len(file) < TRIANGLES_START:
        raise WrongFile()
    count = read_bits(file, COUNT_START)
    if count > MOST_TRIANGLES or len(file) != TRIANGLES_START + TRIANGLE_BYTES * count:
        raise WrongFile()
    return count


def read_triangle(file, start):
    first = start + FIRST_CORNER
    return tuple([read_corner(file, first + CORNER_BYTES * place) for place in range(3)])


def read_corner(file, start):
    return tuple([coordinate(read_bits(file, start + SINGLE_BYTES * axis)) for axis in range(3)])


def read_bits(file, start):
    return file[start] + (file[start + 1] << 8) + (file[start + 2] << 16) + (file[start + 3] << 24)


def coordinate(bits):
    exponent = (bits >> FRACTION_BITS) & 255
    # A single without a hidden bit is zero, or so near to it that it rounds to zero.
    if exponent == 0:
        return 0
    # From here on a single is 8388608 or more, endless, or no number: too far out, whichever it is.
    if exponent >= WHOLE_EXPONENT:
        raise WrongFile()
    fraction = HIDDEN_BIT + (bits & (HIDDEN_BIT - 1))
    size = shift_to_nearest(1000 * fraction, WHOLE_EXPONENT - exponent)
    if size > FARTHEST:
        raise WrongFile()
    return -size if bits >> 31 == 1 else size


def shift_to_nearest(amount, shift):
    whole = amount >> shift
    rest = amount - (whole << shift)
    half = 1 << (shift - 1)
    if rest > half or (rest == half and whole % 2 == 1):
        return whole + 1
    return whole


def counts(triangle):
    return triangle[0] != triangle[1] and triangle[1] != triangle[2] and triangle[2] != triangle[0]


def different_corners(triangles):
    corners = {}
    for triangle in triangles:
        for corner in triangle:
            corners[corner] = True
    return list(corners)


def bounds(corners):
    limits = []
    for axis in range(3):
        along = [corner[axis] for corner in corners]
        limits.append(min(along, default=0))
        limits.append(max(along, default=0))
    return limits


def edges_of(triangle):
    return [(triangle[0], triangle[1]), (triangle[1], triangle[2]), (triangle[2], triangle[0])]


def other_way(edge):
    return (edge[1], edge[0])


def is_closed(triangles):
    edges = {}
    for triangle in triangles:
        for edge in edges_of(triangle):
            if edge in edges:
                return False
            edges[edge] = True
    return all([other_way(edge) in edges for edge in edges])


def count_parts(triangles):
    # Each triangle begins as a part of its own; an edge that was met before joins two parts into one.
    leaders = list(range(len(triangles)))
    holders = {}
    parts = len(triangles)
    for number, triangle in enumerate(triangles):
        for edge in edges_of(triangle):
            holder = holders.setdefault(min(edge, other_way(edge)), number)
            here = find_leader(leaders, number)
            there = find_leader(leaders, holder)
            if here != there:
                leaders[here] = there
                parts -= 1
    return parts


def find_leader(leaders, number):
    while leaders[number] != number:
        # Halving the way keeps long chains of joined parts short.
        leaders[number] = leaders[leaders[number]]
        number = leaders[number]
    return number


def determinant(triangle):
    a = triangle[0]
    b = triangle[1]
    c = triangle[2]
    along_x = a[0] * (b[1] * c[2] - b[2] * c[1])
    along_y = a[1] * (b[0] * c[2] - b[2] * c[0])
    along_z = a[2] * (b[0] * c[1] - b[1] * c[0])
    return along_x - along_y + along_z


def cut_loops(triangles, z):
    onward = ways_onward(triangles, z)
    loops = []
    passed = {}
    # A dict keeps the order in which its keys came: the first edge not passed yet is of the first triangle in no loop.
    for start in onward:
        loop = []
        edge = start
        while edge not in passed:
            passed[edge] = True
            edge = onward[edge]
            loop.append((cut_at(edge, Z, z, X), cut_at(edge, Z, z, Y)))
        if loop:
            loops.append(loop)
    return loops


def ways_onward(triangles, z):
    # From a cut triangle's edge down to its edge up. The edge down is kept the other way, as the edge up by which
    # one comes from the triangle before; in a closed skin each leads from one triangle into just one other.
    onward = {}
    for triangle in triangles:
        edges = edges_of(triangle)
        up = [edge for edge in edges if rises_through(edge, Z, z)]
        down = [other_way(edge) for edge in edges if rises_through(other_way(edge), Z, z)]
        if up:
            onward[down[0]] = up[0]
    return onward


def rises_through(edge, axis, level):
    # The cut lies half a thousandth above the level: what is on the level itself is below.
    return edge[0][axis] <= level < edge[1][axis]


def cut_at(edge, axis, level, asked):
    low = edge[0]
    high = edge[1]
    risen = 2 * level + 1 - 2 * low[axis]
    return low[asked] + (high[asked] - low[asked]) * risen // (2 * (high[axis] - low[axis]))


def loop_numbers(loops):
    numbers = []
    for loop in loops:
        numbers.append(len(loop))
        for point in loop:
            numbers.extend(point)
    return numbers


def rising_sides(loops):
    sides = []
    for loop in loops:
        # The side before the first point comes from the last one, whose index is -1.
        for number, point in enumerate(loop):
            side = (loop[number - 1], point)
            sides.append(side if side[0][Y] <= side[1][Y] else other_way(side))
    return sides


def lines_below(y, first, step):
    return max(0, (y - first + step - 1) // step)


def count_line_numbers(sides, first, step):
    spans = [(lines_below(low[Y], first, step), lines_below(high[Y], first, step)) for low, high in sides]
    crossings = sum([end - start for start, end in spans])
    return 2 * count_crossed_lines(spans) + crossings


def count_crossed_lines(spans):
    lines = 0
    reached = 0
    for start, end in sorted(spans):
        # Lines that an earlier span has reached are counted already.
        lines += max(0, end - max(start, reached))
        reached = max(reached, end)
    return lines


def crossings_by_line(sides, first, step):
    crossings = {}
    for side in sides:
        start = first + step * lines_below(side[0][Y], first, step)
        # No point lies beyond the farthest y, so no line beyond it is met.
        for y in range(start, side[1][Y], step):
            crossings.setdefault(y, []).append(cut_at(side, Y, y, X))
    return crossings


def line_numbers(crossings):
    numbers = []
    for y in sorted(crossings):
        numbers.append(y)
        numbers.append(len(crossings[y]) // 2)
        numbers.extend(sorted(crossings[y]))
    return numbers
