"""Builders of calls, and a slow second program that follows the document's words.

The slow one shares nothing with the package: it reckons in fractions, looks at
whole legs piece by piece, and traces paths from the start instead of the goal.
"""

from fractions import Fraction
from itertools import product

from roomtaps.taps import answers

BIG = 2 ** 63 - 1
LOW = -2 ** 63
TOP_GAIN = 2 ** 40
FULL_BOOK = [32768] * 36
BOX = [(0, 0), (10, 0), (10, 10), (0, 10)]
TOP_SAMPLE = 2 ** 31 - 1
LOW_SAMPLE = -2 ** 31
FULL_GAIN = 2 ** 24
BEGIN, GET, AT, QUIET = [4], [6], [9], [10]


def row(numbers):
    return [len(numbers)] + list(numbers)


def delay_call(square, rate, speed):
    return [1, square, rate, speed]


def taps_call(room, s, e, most=0, band=0, rate=1000, speed=100, book=FULL_BOOK):
    return [2, *s, *e, most, band, rate, speed] + row(room) + row(book)


def judge_call(taps):
    return [3] + row(taps)


def set_call(taps):
    return [5] + row(taps)


def run_call(samples):
    return [7] + row(samples)


def past_call(back):
    return [8, back]


def room_row(corners, height=10, stuff=0, floor=0, ceiling=0, stuffs=None):
    """stuffs, if given, has the stuff of each side wall."""
    numbers = [height, floor, ceiling]
    for i, (x, y) in enumerate(corners):
        numbers += [x, y, stuff if stuffs is None else stuffs[i]]
    return numbers


def one(call):
    """The answer of a list of one call, without its count."""
    given = answers(call)
    if given[0] != len(given) - 1:
        raise AssertionError(f"count {given[0]} before {len(given) - 1} numbers")
    return given[1:]


def split(given):
    """The answers of a list of calls, one by one."""
    found = []
    place = 0
    while place < len(given):
        found.append(given[place + 1:place + 1 + given[place]])
        place += 1 + given[place]
    return found


def joined(calls):
    return [number for call in calls for number in call]


def on_one_line(*calls):
    """The answers of these calls, one behind another on one line."""
    return split(answers(joined(calls)))


def last_on_one_line(*calls):
    return on_one_line(*calls)[-1]


def nearest_root(square):
    """The whole number nearest to the root of a fraction, of two as near the greater."""
    low, high = 0, 1
    while (2 * high - 1) ** 2 <= 4 * square:
        high *= 2
    while high - low > 1:
        mid = (low + high) // 2
        if (2 * mid - 1) ** 2 <= 4 * square:
            low = mid
        else:
            high = mid
    return low


def slow_delay(square, rate, speed):
    return nearest_root(Fraction(square * rate * rate, speed * speed))


def slow_gain(square, stuffs, book, band):
    whole = 0
    while (1024 * (whole + 1)) ** 2 <= square:
        whole += 1
    part = Fraction(1)
    for stuff in stuffs:
        part *= Fraction(book[4 * stuff + band], 32768)
    part *= Fraction(book[32 + band], 32768) ** whole
    return nearest_root((2 ** 32 * part) ** 2 / max(square, 1))


def cross(u, v):
    return u[0] * v[1] - u[1] * v[0]


def minus(p, q):
    return tuple(a - b for a, b in zip(p, q))


def at(p, q, part):
    return tuple(a + (b - a) * part for a, b in zip(p, q))


def sides(corners):
    return [(corners[i], corners[(i + 1) % len(corners)]) for i in range(len(corners))]


def on_side(p, side):
    a, b = side
    if cross(minus(b, a), minus(p[:2], a)) != 0:
        return False
    return all(min(u, v) <= w <= max(u, v) for u, v, w in zip(a, b, p))


def in_plan(corners, p):
    """Strictly within, by how often a ray to the right meets the lines."""
    if any(on_side(p, side) for side in sides(corners)):
        return False
    odd = False
    for (ax, ay), (bx, by) in sides(corners):
        if (ay > p[1]) != (by > p[1]):
            if ax + Fraction((p[1] - ay) * (bx - ax), by - ay) > p[0]:
                odd = not odd
    return odd


def slow_inside(corners, height, p):
    return 0 < p[2] < height and in_plan(corners, p)


def slow_clear(corners, height, p, q):
    if tuple(p) == tuple(q):
        return True
    marks = {Fraction(0), Fraction(1)}
    way = minus(q, p)
    for a, b in sides(corners):
        along = minus(b, a)
        turn = cross(way, along)
        if turn != 0:
            marks.add(Fraction(cross(minus(a, p[:2]), along)) / turn)
        for c in (a, b):
            for k in (0, 1):
                if way[k] != 0:
                    marks.add(Fraction(c[k] - p[k]) / way[k])
    for level in (0, height):
        if way[2] != 0:
            marks.add(Fraction(level - p[2]) / way[2])
    marks = sorted(mark for mark in marks if 0 <= mark <= 1)
    looks = marks[1:-1] + [(u + v) / 2 for u, v in zip(marks, marks[1:])]
    return all(slow_inside(corners, height, at(p, q, look)) for look in looks)


def slow_plane(corners, height, wall):
    """A point of the wall's plane, and what stands straight on it."""
    if wall == len(corners):
        return (0, 0, 0), (0, 0, 1)
    if wall == len(corners) + 1:
        return (0, 0, height), (0, 0, 1)
    (ax, ay), (bx, by) = sides(corners)[wall]
    return (ax, ay, 0), (by - ay, ax - bx, 0)


def dot(u, v):
    return sum(a * b for a, b in zip(u, v))


def slow_mirror(corners, height, wall, p):
    base, normal = slow_plane(corners, height, wall)
    part = Fraction(2 * dot(minus(p, base), normal)) / dot(normal, normal)
    return tuple(a - part * b for a, b in zip(p, normal))


def slow_open_wall(corners, height, wall, p):
    if wall == len(corners):
        return p[2] == 0 and in_plan(corners, p)
    if wall == len(corners) + 1:
        return p[2] == height and in_plan(corners, p)
    side = sides(corners)[wall]
    return on_side(p, side) and p[:2] not in side and 0 < p[2] < height


def strictly_between(p, q, r):
    """Whether q lies on the line from p to r, strictly between them."""
    u, v = minus(q, p), minus(r, q)
    flat = all(u[i] * v[j] == u[j] * v[i] for i, j in ((0, 1), (0, 2), (1, 2)))
    return flat and dot(u, v) > 0


def slow_turns(corners, height, s, e, walls):
    """The turns' points that the walls would give, or None."""
    ends = [tuple(e)]
    for wall in reversed(walls):
        ends.append(slow_mirror(corners, height, wall, ends[-1]))
    points = []
    here = tuple(s)
    for wall, end in zip(walls, reversed(ends[1:])):
        base, normal = slow_plane(corners, height, wall)
        here_off = dot(minus(here, base), normal)
        end_off = dot(minus(end, base), normal)
        if here_off == end_off:
            return None
        here = at(here, end, Fraction(here_off) / (here_off - end_off))
        points.append(here)
    return points


def slow_path(corners, height, s, e, walls):
    """Whether these walls make a path, by the words of 'Paths'."""
    points = slow_turns(corners, height, s, e, walls)
    if points is None:
        return False
    legs = [tuple(s)] + points + [tuple(e)]
    for i, wall in enumerate(walls):
        if not slow_open_wall(corners, height, wall, points[i]):
            return False
        before = slow_mirror(corners, height, wall, legs[i])
        if not strictly_between(before, points[i], legs[i + 2]):
            return False
    return all(slow_clear(corners, height, p, q) for p, q in zip(legs, legs[1:]))


def slow_paths(corners, height, s, e, most):
    """Each path's walls and length squared."""
    found = []
    for count in range(most + 1):
        for walls in product(range(len(corners) + 2), repeat=count):
            if slow_path(corners, height, s, e, walls):
                image = tuple(s)
                for wall in walls:
                    image = slow_mirror(corners, height, wall, image)
                away = minus(image, e)
                found.append((walls, dot(away, away)))
    return found


def slow_taps(numbers, s, e, most, band, rate, speed, book):
    """The answer to a taps call that has no fault and is not refused by -1."""
    threes = [numbers[i:i + 3] for i in range(3, len(numbers), 3)]
    corners = [(x, y) for x, y, stuff in threes]
    stuffs = [stuff for x, y, stuff in threes] + numbers[1:3]
    height = numbers[0]
    if not slow_inside(corners, height, s) or not slow_inside(corners, height, e):
        return [-3]
    sums = {}
    for walls, square in slow_paths(corners, height, s, e, most):
        delay = slow_delay(square, rate, speed)
        if delay > 262143:
            return [-4]
        gain = slow_gain(square, [stuffs[wall] for wall in walls], book, band)
        sums[delay] = sums.get(delay, 0) + gain
    taps = [(delay, min(gain, TOP_GAIN)) for delay, gain in sorted(sums.items()) if gain != 0]
    if len(taps) > 4096:
        return [-8]
    return [0] + [number for tap in taps for number in tap]


def sides_meet(side, other):
    """Whether two closed lines have a point in common."""
    (a, b), (c, d) = side, other
    u, v = minus(b, a), minus(d, c)
    turn = cross(u, v)
    if turn == 0:
        return on_side(a, other) or on_side(b, other) or on_side(c, side) or on_side(d, side)
    first = Fraction(cross(minus(c, a), v), turn)
    second = Fraction(cross(minus(c, a), u), turn)
    return 0 <= first <= 1 and 0 <= second <= 1


def slow_line_fault(corners):
    """The first fault of rules 4 to 7, or None."""
    lines = sides(corners)
    count = len(lines)
    ways = [minus(b, a) for a, b in lines]
    eight = [(1, 0), (1, 1), (0, 1), (-1, 1), (-1, 0), (-1, -1), (0, -1), (1, -1)]
    for i, way in enumerate(ways):
        size = max(abs(way[0]), abs(way[1]))
        if not any(way == (size * x, size * y) and size for x, y in eight):
            return [4, i]
    for i, way in enumerate(ways):
        if cross(way, ways[(i + 1) % count]) == 0:
            return [5, i]
    for i in range(count):
        for j in range(count):
            if (i - j) % count not in (0, 1, count - 1) and sides_meet(lines[i], lines[j]):
                return [6, i]
    if sum(cross(a, b) for a, b in lines) < 0:
        return [7, 0]
    return None


class SlowLine:
    """A line by the words of 'Taps' and 'The calls': x is a dict by time, y is asked time by time."""

    def __init__(self):
        self.pairs = {}
        self.x = {}

    def y(self, time):
        """The whole number nearest to the sum, of two as near the greater, not held yet."""
        total = sum((Fraction(gain * self.x.get(time - delay, 0), FULL_GAIN) for delay, gain in self.pairs.items()),
                    Fraction(0))
        near = [total.numerator // total.denominator + off for off in (-1, 0, 1, 2)]
        return min(near, key=lambda number: (abs(number - total), -number))

    def set(self, taps):
        """For taps that are taps."""
        self.pairs = dict(zip(taps[::2], taps[1::2]))
        return [0]

    def get(self):
        return [0] + [number for pair in sorted(self.pairs.items()) for number in pair]

    def run(self, samples):
        if any(sample < LOW_SAMPLE or sample > TOP_SAMPLE for sample in samples):
            return [-1]
        held, out = 0, []
        for sample in samples:
            self.x[len(self.x)] = sample
            number = self.y(len(self.x) - 1)
            out.append(sorted((LOW_SAMPLE, number, TOP_SAMPLE))[1])
            held += out[-1] != number
        return [0, held] + out

    def past(self, back):
        return [-1] if back > 262143 else [0, self.x.get(len(self.x) - 1 - back, 0)]

    def at(self):
        return [len(self.x)]

    def quiet(self):
        """Asks each time until the latest tap has let the last sample go."""
        ahead = range(len(self.x), len(self.x) + max(self.pairs, default=0))
        return [int(all(self.y(time) == 0 for time in ahead))]
