"""What the call taps refuses, and in which order."""

import unittest

from tests.helper import BIG, BOX, LOW, one, room_row, taps_call

ROOM = room_row(BOX)
WRONG_ROOM = room_row(list(reversed(BOX)))
WRONG_BOOK = [0] * 35 + [32769]
IN = (5, 5, 5)
OUT = (0, 5, 5)
ELL = [(0, 0), (10, 0), (10, 4), (4, 4), (4, 10), (0, 10)]


class Refusals(unittest.TestCase):
    def check(self, answer, room=ROOM, s=IN, e=IN, **more):
        with self.subTest(room=room, s=s, e=e, **more):
            self.assertEqual(one(taps_call(room, s, e, **more)), answer)

    def test_bounds_of_rate_and_speed(self):
        for rate in (0, 192001, BIG):
            self.check([-1], rate=rate)
        for speed in (0, 1048577, BIG):
            self.check([-1], speed=speed)
        for rate in (1, 192000):
            for speed in (1, 1048576):
                self.check([0, 0, 2 ** 32], rate=rate, speed=speed)

    def test_bounds_of_most_and_band(self):
        for most in (5, 6, BIG):
            self.check([-1], most=most)
        for band in (4, 5, BIG):
            self.check([-1], band=band)
        self.check([0, 0, 2 ** 32], band=3)
        self.assertEqual(one(taps_call(ROOM, IN, IN, 4))[0], 0)

    def test_points_that_are_not_inside(self):
        on_walls = [(0, 5, 5), (10, 5, 5), (5, 0, 5), (5, 10, 5), (5, 5, 0), (5, 5, 10)]
        corners = [(0, 0, 5), (10, 10, 5), (10, 0, 0)]
        beyond = [(-1, 5, 5), (11, 5, 5), (5, -1, 5), (5, 11, 5), (5, 5, -1), (5, 5, 11)]
        far = [(LOW, 5, 5), (BIG, 5, 5), (5, LOW, 5), (5, BIG, 5), (5, 5, LOW), (5, 5, BIG), (BIG, LOW, BIG)]
        for point in on_walls + corners + beyond + far:
            self.check([-3], s=point)
            self.check([-3], e=point)
            self.check([-3], s=point, e=point)

    def test_points_just_inside(self):
        for point in ((1, 5, 5), (9, 5, 5), (5, 1, 5), (5, 9, 5), (5, 5, 1), (5, 5, 9)):
            self.check([0, 0, 2 ** 32], s=point, e=point)

    def test_points_in_the_bay_of_a_room(self):
        for point in ((5, 5, 5), (4, 4, 5), (4, 7, 5), (7, 4, 5), (9, 9, 5)):
            self.check([-3], room=room_row(ELL), s=point, e=point)
        for point in ((3, 4, 5), (4, 3, 5), (3, 9, 5), (9, 3, 5)):
            self.check([0, 0, 2 ** 32], room=room_row(ELL), s=point, e=point)

    def test_a_point_in_a_bay_with_sides_of_one(self):
        room = room_row([(0, 0), (8, 0), (8, 3), (5, 3), (5, 2), (4, 1), (3, 2), (3, 3), (0, 3)])
        self.check([-3], room=room, s=(4, 2, 5), e=(4, 2, 5))
        self.check([0, 0, 2 ** 32], room=room, s=(6, 2, 5), e=(6, 2, 5))

    def test_points_level_with_corners(self):
        diamond = room_row([(5, 0), (10, 5), (5, 10), (0, 5)])
        for point in ((1, 5, 5), (9, 5, 5), (5, 1, 5), (5, 9, 5)):
            self.check([0, 0, 2 ** 32], room=diamond, s=point, e=point)
        for point in ((0, 5, 5), (10, 5, 5), (12, 5, 5), (-3, 5, 5), (2, 2, 5), (7, 0, 5), (2, 10, 5), (7, 8, 5)):
            self.check([-3], room=diamond, s=point, e=point)

    def test_a_delay_too_long(self):
        self.check([0, 262143, 1431655765], e=(5, 5, 8), rate=87381, speed=1)
        self.check([-4], e=(5, 5, 8), rate=87382, speed=1)
        # The straight leg would do, a path with a turn is too late.
        self.check([0, 192000, 2 ** 32], e=(5, 5, 6), rate=192000, speed=1)
        self.check([-4], e=(5, 5, 6), rate=192000, speed=1, most=1)

    def test_a_path_too_late_counts_without_a_gain(self):
        self.check([-4], e=(5, 5, 6), rate=192000, speed=1, most=1, book=[0] * 36)

    def test_a_way_that_is_no_path_is_not_too_late(self):
        room = room_row(ELL)
        self.check([0], room=room, s=(2, 8, 5), e=(8, 2, 5), rate=192000, speed=1)

    def test_the_order(self):
        wrong = {"room": WRONG_ROOM, "book": WRONG_BOOK, "rate": 0, "s": OUT}
        self.check([-5, 7, 0], **wrong)
        self.check([-6, 35], **{**wrong, "room": ROOM})
        self.check([-1], room=ROOM, rate=0, s=OUT)
        self.check([-1], room=ROOM, speed=0, e=OUT)
        self.check([-1], room=ROOM, most=5, s=OUT)
        self.check([-1], room=ROOM, band=4, s=OUT)
        self.check([-3], room=ROOM, s=OUT, e=(9, 9, 9), rate=192000, speed=1, most=2)
        self.check([-4], room=ROOM, e=(9, 9, 9), rate=192000, speed=1, most=2)

    def test_a_room_comes_first_whatever_else_is_wrong(self):
        for other in ({"book": []}, {"most": BIG}, {"band": BIG}, {"speed": 0}, {"e": OUT}, {"s": (LOW, LOW, LOW)}):
            self.check([-5, 1, 0], room=[], **other)
        for other in ({"most": BIG}, {"band": BIG}, {"speed": 0}, {"rate": BIG}, {"e": OUT}, {"s": (BIG, BIG, BIG)}):
            self.check([-6, 0], book=[], **other)


if __name__ == "__main__":
    unittest.main()
