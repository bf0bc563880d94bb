"""What lies under the calls: roots, lines in plan, mirrored points."""

import math
import random
import unittest

from roomtaps.plans import Edge, Point, edge_cuts, edges_meet, middle, strictly_within
from roomtaps.rooms import Room
from roomtaps.roots import whole_root
from roomtaps.walls import mirrored
from tests.helper import room_row, sides_meet, slow_mirror


def point(x, y, over=1):
    return Point(x, y, 0, over)


def edge(ax, ay, bx, by):
    return Edge(point(ax, ay), point(bx, by))


class Roots(unittest.TestCase):
    def test_small_numbers(self):
        for square in range(5000):
            self.assertEqual(whole_root(square), math.isqrt(square))

    def test_beside_large_squares(self):
        for power in range(1, 200):
            for off in (-1, 0, 1):
                square = 3 ** (2 * power) + off
                self.assertEqual(whole_root(square), math.isqrt(square))


class Cuts(unittest.TestCase):
    def check(self, line, p, q, cut):
        for first, second in ((p, q), (q, p)):
            with self.subTest(p=p, q=q):
                self.assertEqual(edge_cuts(line, point(*first), point(*second)), cut)

    def test_across(self):
        line = edge(2, 0, 8, 0)
        self.check(line, (5, -1), (5, 1), True)
        self.check(line, (2, -1), (2, 1), True)
        self.check(line, (8, -1), (8, 1), True)
        self.check(line, (9, -1), (8, 1), False)
        self.check(line, (1, -1), (2, 1), False)
        self.check(line, (5, 1), (5, 3), False)

    def test_an_end_on_the_line_is_not_between(self):
        line = edge(2, 0, 8, 0)
        self.check(line, (5, 0), (5, 4), False)
        self.check(line, (2, 0), (5, -4), False)
        self.check(line, (0, 0), (5, 4), False)

    def test_along_the_line(self):
        for line in (edge(2, 0, 8, 0), edge(8, 0, 2, 0)):
            self.check(line, (0, 0), (10, 0), True)
            self.check(line, (0, 0), (5, 0), True)
            self.check(line, (5, 0), (10, 0), True)
            self.check(line, (3, 0), (4, 0), True)
            self.check(line, (2, 0), (8, 0), True)
            self.check(line, (0, 0), (2, 0), False)
            self.check(line, (0, 0), (1, 0), False)
            self.check(line, (8, 0), (10, 0), False)
            self.check(line, (9, 0), (10, 0), False)

    def test_along_the_line_with_broken_points(self):
        line = edge(0, 0, 1, 0)
        self.check(line, (-1, 0), (1, 0, 9), True)
        self.check(line, (-5, 0, 3), (-1, 0, 9), False)
        self.check(line, (8, 0, 9), (3, 0), True)
        self.check(line, (10, 0, 9), (3, 0), False)
        self.check(line, (9, 0, 9), (3, 0), False)
        self.check(line, (1, 0, 9), (2, 0, 9), True)

    def test_edges_that_meet(self):
        rng = random.Random(5)
        for turn in range(3000):
            ends = [rng.randrange(4) for number in range(8)]
            if ends[:2] != ends[2:4] and ends[4:6] != ends[6:]:
                first, second = edge(*ends[:4]), edge(*ends[4:])
                slow = sides_meet((tuple(ends[:2]), tuple(ends[2:4])), (tuple(ends[4:6]), tuple(ends[6:])))
                self.assertEqual(edges_meet(first, second), slow, ends)
                self.assertEqual(edges_meet(second, first), slow, ends)


class Within(unittest.TestCase):
    def test_a_bay_with_sides_of_one(self):
        corners = [(0, 0), (8, 0), (8, 3), (5, 3), (5, 2), (4, 1), (3, 2), (3, 3), (0, 3)]
        edges = Room(room_row(corners)).edges
        within = [(x, y) for x in range(-1, 10) for y in range(-1, 5) if strictly_within(edges, point(x, y))]
        self.assertEqual(within, [(1, 1), (1, 2), (2, 1), (2, 2), (3, 1), (5, 1), (6, 1), (6, 2), (7, 1), (7, 2)])

    def test_broken_points(self):
        edges = Room(room_row([(0, 0), (1, 0), (1, 1), (0, 1)])).edges
        self.assertTrue(strictly_within(edges, point(1, 1, 2)))
        self.assertTrue(strictly_within(edges, point(1, 98, 99)))
        self.assertFalse(strictly_within(edges, point(99, 98, 99)))
        self.assertFalse(strictly_within(edges, point(100, 98, 99)))
        self.assertFalse(strictly_within(edges, point(0, 1, 2)))

    def test_the_middle_of_broken_points(self):
        half = middle(Point(1, 2, 3, 4), Point(5, 6, 7, 8))
        self.assertEqual([16 * half.x, 16 * half.y, 16 * half.z], [7 * half.over, 10 * half.over, 13 * half.over])


class Mirrors(unittest.TestCase):
    def test_each_wall_of_an_octagon(self):
        corners = [(3, 0), (7, 0), (10, 3), (10, 7), (7, 10), (3, 10), (0, 7), (0, 3)]
        room = Room(room_row(corners, 9))
        for wall in range(10):
            for start in ((5, 5, 5), (-20, 33, 14), (3, 0, 9)):
                image = mirrored(room, wall, Point(*start, 1))
                self.assertEqual((image.x, image.y, image.z), slow_mirror(corners, 9, wall, start))
                again = mirrored(room, wall, image)
                self.assertEqual((again.x, again.y, again.z, again.over), (*start, 1))


if __name__ == "__main__":
    unittest.main()
