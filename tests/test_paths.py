"""Which paths the call taps finds: their lengths, by delays at 1,000 samples a unit."""

import random
import unittest

from roomtaps.paths import find_paths
from roomtaps.plans import Point
from roomtaps.rooms import Room
from tests.helper import BOX, FULL_BOOK, one, room_row, slow_inside, slow_line_fault, slow_paths, slow_taps, taps_call

# A bump of the lower wall, from x = 4 to x = 6, y = 0 to y = 4.
BUMP = [(0, 0), (4, 0), (4, 4), (6, 4), (6, 0), (10, 0), (10, 10), (0, 10)]
ELL = [(0, 0), (10, 0), (10, 4), (4, 4), (4, 10), (0, 10)]
YOU = [(0, 0), (12, 0), (12, 12), (8, 12), (8, 4), (4, 4), (4, 12), (0, 12)]
EIGHT = [(3, 0), (7, 0), (10, 3), (10, 7), (7, 10), (3, 10), (0, 7), (0, 3)]
WEDGE = [(0, 0), (12, 0), (0, 12)]
# A slanting wall cuts the way between two bays.
SLANT = [(0, 0), (12, 0), (12, 12), (8, 12), (8, 8), (4, 4), (4, 12), (0, 12)]


def pairs(answer):
    return list(zip(answer[1::2], answer[2::2]))


def gain(length):
    return int(2 ** 32 / length + 0.5)


class Paths(unittest.TestCase):
    def taps(self, corners, s, e, most, height=10):
        answer = one(taps_call(room_row(corners, height), s, e, most, 0, 100, 1))
        self.assertEqual(answer[0], 0)
        return pairs(answer)

    def test_the_straight_leg(self):
        self.assertEqual(self.taps(BOX, (5, 5, 5), (5, 5, 8), 0), [(300, gain(3))])
        self.assertEqual(self.taps(BOX, (1, 1, 1), (4, 5, 1), 0), [(500, gain(5))])
        self.assertEqual(self.taps(BOX, (1, 1, 1), (9, 9, 9), 0), [(1386, gain(192 ** 0.5))])

    def test_one_point(self):
        self.assertEqual(self.taps(BOX, (5, 5, 5), (5, 5, 5), 0), [(0, 2 ** 32)])

    def test_one_point_and_each_wall(self):
        found = self.taps(BOX, (1, 2, 3), (1, 2, 3), 1)
        lengths = sorted([0, 2 * 1, 2 * 2, 2 * 3, 2 * 9, 2 * 8, 2 * 7])
        self.assertEqual(found, [(100 * far, gain(max(far, 1))) for far in lengths])

    def test_one_turn(self):
        # The walls x = 0, x = 10 and the floor give 10 each, y = 0 and y = 10 the root of 164.
        self.assertEqual(self.taps(BOX, (1, 5, 3), (9, 5, 3), 1), [
            (800, gain(8)), (1000, 3 * gain(10)), (1281, 2 * gain(164 ** 0.5)), (1612, gain(260 ** 0.5))])

    def test_two_turns(self):
        # There and back across the box is 20, by either wall first, of each of three pairs.
        with_one = dict(self.taps(BOX, (5, 5, 5), (5, 5, 5), 1))
        with_two = dict(self.taps(BOX, (5, 5, 5), (5, 5, 5), 2))
        self.assertEqual(with_one, {0: 2 ** 32, 1000: 6 * gain(10)})
        self.assertEqual(with_two, {0: 2 ** 32, 1000: 6 * gain(10), 2000: 6 * gain(20)})

    def test_turns_in_corners_are_none(self):
        # By symmetry two walls that meet would have to be hit in their corner.
        found = dict(self.taps(BOX, (5, 5, 5), (5, 5, 5), 2))
        self.assertNotIn(1414, found)
        # Hardly off the middle the same walls are hit one after the other.
        found = dict(self.taps(BOX, (5, 5, 5), (5, 6, 5), 2))
        # Mirrored in x and y: 10 across, 9 or 11 along.
        self.assertIn(1345, found)
        self.assertIn(1487, found)

    def test_three_and_four_turns(self):
        three = dict(self.taps(BOX, (5, 5, 5), (5, 5, 5), 3))
        four = dict(self.taps(BOX, (5, 5, 5), (5, 5, 5), 4))
        self.assertEqual(three[3000], 6 * gain(30))
        self.assertNotIn(4000, three)
        self.assertEqual(four[4000], 6 * gain(40))

    def test_how_many_paths_a_box_has(self):
        # Off all symmetry k turns in a box have 4 * k^2 + 2 paths.
        room = Room(room_row([(0, 0), (97, 0), (97, 89), (0, 89)], 83))
        total = 1
        for most in range(1, 5):
            total += 4 * most * most + 2
            paths = find_paths(room, Point(11, 23, 31, 1), Point(41, 52, 67, 1), most)
            self.assertEqual(len(paths), total)
            self.assertEqual(len({tuple(path.walls) for path in paths}), total)
            self.assertEqual({len(path.walls) for path in paths}, set(range(most + 1)))

    def test_a_leg_that_is_not_clear(self):
        self.assertEqual(self.taps(ELL, (2, 8, 5), (8, 2, 5), 0), [])
        self.assertEqual(self.taps(YOU, (2, 8, 5), (10, 8, 5), 0), [])
        self.assertEqual(self.taps(YOU, (2, 3, 5), (10, 3, 5), 0), [(800, gain(8))])
        self.assertEqual(self.taps(SLANT, (3, 5, 5), (11, 10, 5), 0), [])

    def test_a_leg_that_touches_a_corner(self):
        # The bend of the ell, at (4, 4), lies on the line.
        self.assertEqual(self.taps(ELL, (2, 6, 5), (6, 2, 5), 0), [])
        self.assertEqual(self.taps(ELL, (2, 6, 4), (6, 2, 7), 0), [])
        self.assertEqual(self.taps(ELL, (2, 5, 5), (6, 2, 5), 0), [(500, gain(5))])
        self.assertEqual(self.taps(ELL, (2, 5, 5), (5, 2, 5), 0), [(424, gain(18 ** 0.5))])

    def test_a_leg_that_touches_a_wall(self):
        # Along the top of the bump, and hardly above it.
        self.assertEqual(self.taps(BUMP, (2, 4, 5), (8, 4, 5), 0), [])
        self.assertEqual(self.taps(BUMP, (2, 4, 3), (8, 4, 6), 0), [])
        self.assertEqual(self.taps(BUMP, (2, 5, 5), (8, 5, 5), 0), [(600, gain(6))])
        # Up to the wall's line, but not as far as the wall.
        self.assertEqual(self.taps(BUMP, (1, 4, 5), (3, 4, 5), 0), [(200, gain(2))])
        # Along a slanting wall.
        self.assertEqual(self.taps(SLANT, (3, 3, 5), (9, 9, 5), 0), [])

    def test_a_turn_beyond_its_wall(self):
        # Seen from (2, 7) the wall from (10, 0) to (10, 4) would turn the way at y = 7, 8 away.
        found = dict(self.taps(ELL, (2, 7, 5), (2, 7, 5), 1))
        self.assertEqual(found, {0: 2 ** 32, 400: 2 * gain(4), 600: gain(6), 1000: 2 * gain(10), 1400: gain(14)})

    def test_a_turn_at_the_end_of_its_wall(self):
        # From (2, 4) straight to the line of the wall x = 4, that's to the bend itself.
        found = dict(self.taps(ELL, (2, 4, 5), (2, 4, 5), 1))
        self.assertEqual(found[400], gain(4))
        found = dict(self.taps(ELL, (2, 5, 5), (2, 5, 5), 1))
        self.assertEqual(found[400], 2 * gain(4))

    def test_a_floor_that_turns_where_the_room_is_not(self):
        # The floor's point and the ceiling's would lie in the bump: only y = 10 leads round it.
        self.assertEqual(self.taps(BUMP, (2, 2, 5), (8, 2, 5), 1), [(1709, gain(292 ** 0.5))])

    def test_a_turn_behind_a_bend(self):
        # The ell's wall y = 0 and wall x = 0 lead round the bend.
        found = dict(self.taps(ELL, (2, 8, 5), (8, 2, 5), 1))
        self.assertEqual(found, {})
        expected = {}
        for walls, square in slow_paths(ELL, 10, (2, 8, 5), (8, 2, 5), 2):
            delay = round(100 * square ** 0.5)
            expected[delay] = expected.get(delay, 0) + gain(float(square) ** 0.5)
        self.assertEqual(dict(self.taps(ELL, (2, 8, 5), (8, 2, 5), 2)), expected)

    def test_slanting_walls(self):
        # In the wedge the long wall mirrors (x, y) to (12 - y, 12 - x): (2, 3) to (9, 10).
        found = dict(self.taps(WEDGE, (2, 3, 5), (2, 3, 5), 1, 40))
        self.assertEqual(found[990], gain(98 ** 0.5))
        # In the octagon (5, 5) is as far from all four slanting walls.
        found = dict(self.taps(EIGHT, (5, 5, 10), (5, 5, 10), 1, 40))
        self.assertEqual(found[990], 4 * gain(98 ** 0.5))
        self.assertEqual(found[1000], 4 * gain(10))

    def test_the_least_room(self):
        corners = [(0, 0), (2, 0), (2, 2), (0, 2)]
        self.assertEqual(self.taps(corners, (1, 1, 1), (1, 1, 1), 1, 2), [(0, 2 ** 32), (200, 6 * gain(2))])

    def test_the_largest_room(self):
        top = 4095
        corners = [(0, 0), (top, 0), (top, top), (0, top)]
        s, e = (1, 1, 1), (4094, 4094, 4094)
        book = [32768, 20000, 10000, 5] * 9
        for most, band in ((2, 0), (2, 1), (1, 2), (1, 3)):
            room = room_row(corners, top)
            answer = one(taps_call(room, s, e, most, band, 192000, 1048576, book))
            self.assertEqual(answer, slow_taps(room, s, e, most, band, 192000, 1048576, book))

    def test_the_largest_room_with_four_turns(self):
        top = 4095
        room = room_row([(0, 0), (top, 0), (top, top), (0, top)], top)
        s, e = (1, 2, 3), (4090, 4091, 4092)
        answer = one(taps_call(room, s, e, 4, 0, 192000, 40000))
        self.assertEqual(answer, slow_taps(room, s, e, 4, 0, 192000, 40000, FULL_BOOK))


class OtherWayRound(unittest.TestCase):
    def test_the_same_taps(self):
        book = [31 * place + 20000 for place in range(36)]
        for corners in (BOX, BUMP, ELL, YOU, EIGHT, WEDGE, SLANT):
            room = room_row(corners, 7, floor=6, ceiling=7, stuffs=[i % 6 for i in range(len(corners))])
            for s, e in (((1, 5, 2), (3, 7, 4)), ((3, 5, 6), (1, 4, 1)), ((2, 7, 3), (3, 3, 5))):
                there = one(taps_call(room, s, e, 2, 1, 48000, 34, book))
                back = one(taps_call(room, e, s, 2, 1, 48000, 34, book))
                self.assertEqual(there[0], 0, corners)
                self.assertEqual(there, back, corners)

    def test_the_first_corner_does_not_matter(self):
        for corners in (BUMP, ELL, YOU, EIGHT, WEDGE, SLANT):
            first = one(taps_call(room_row(corners), (1, 5, 2), (3, 7, 4), 2))
            for k in range(len(corners)):
                turned = room_row(corners[k:] + corners[:k])
                self.assertEqual(one(taps_call(turned, (1, 5, 2), (3, 7, 4), 2)), first)


class AgainstTheSlowReckoning(unittest.TestCase):
    def a_point(self, rng, corners, height):
        while True:
            point = (rng.randrange(13), rng.randrange(13), rng.randrange(1, height))
            if slow_inside(corners, height, point):
                return point

    def compare(self, rng, corners, most):
        height = rng.randrange(2, 9)
        room = room_row(corners, height, floor=rng.randrange(8), ceiling=rng.randrange(8),
                        stuffs=[rng.randrange(8) for corner in corners])
        s = self.a_point(rng, corners, height)
        e = s if rng.randrange(10) == 0 else self.a_point(rng, corners, height)
        band, rate, speed = rng.randrange(4), rng.choice((1, 1000, 48000)), rng.choice((1, 40, 340, 1000))
        book = [rng.choice((0, 32768, 32768, rng.randrange(32769))) for place in range(36)]
        answer = one(taps_call(room, s, e, most, band, rate, speed, book))
        self.assertEqual(answer, slow_taps(room, s, e, most, band, rate, speed, book), (room, s, e, most))

    def test_rooms_by_hand(self):
        rng = random.Random(3)
        for corners in (BOX, BUMP, ELL, YOU, EIGHT, WEDGE, SLANT):
            for turn in range(6):
                self.compare(rng, corners, turn % 3)
        self.compare(rng, ELL, 3)
        self.compare(rng, WEDGE, 4)
        self.compare(rng, BOX, 4)

    def test_rooms_by_chance(self):
        rng = random.Random(4)
        eight = [(1, 0), (1, 1), (0, 1), (-1, 1), (-1, 0), (-1, -1), (0, -1), (1, -1)]
        rooms = 0
        while rooms < 60:
            corners = [(rng.randrange(13), rng.randrange(13))]
            for step in range(rng.randrange(3, 8)):
                (x, y), (right, up), far = corners[-1], rng.choice(eight), rng.randrange(1, 9)
                corners.append((x + right * far, y + up * far))
            if any(not 0 <= number <= 12 for corner in corners for number in corner):
                continue
            fault = slow_line_fault(corners)
            if fault == [7, 0]:
                corners.reverse()
                fault = None
            if fault is None and self.has_inside(corners):
                rooms += 1
                self.compare(rng, corners, 1 + rooms % 2)

    def has_inside(self, corners):
        return any(slow_inside(corners, 2, (x, y, 1)) for x in range(13) for y in range(13))


if __name__ == "__main__":
    unittest.main()
