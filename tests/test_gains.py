"""A path's gain, the sums of gains, and the delays of taps."""

import unittest

from roomtaps.tapsets import summed_taps, taps_answer
from tests.helper import BOX, FULL_BOOK, TOP_GAIN, one, room_row, slow_gain, taps_call

HALL = [(0, 0), (4095, 0), (4095, 20), (0, 20)]
DEAD = [0] * 36


def book_with(**parts):
    """A book of nothing but what's told: s3b1=5 for stuff 3 in band 1, air2=7 for band 2."""
    book = list(DEAD)
    for name, part in parts.items():
        if name.startswith("air"):
            book[32 + int(name[3:])] = part
        else:
            stuff, band = name[1:].split("b")
            book[4 * int(stuff) + int(band)] = part
    return book


class Gains(unittest.TestCase):
    def straight(self, far, book=FULL_BOOK, band=0, up=0):
        return one(taps_call(room_row(HALL), (1, 5, 5), (1 + far, 5 + up, 5), 0, band, 1, 1, book))

    def test_length_256_with_nothing_lost(self):
        self.assertEqual(self.straight(256), [0, 256, 2 ** 24])

    def test_a_length_of_0_counts_as_1(self):
        self.assertEqual(self.straight(0), [0, 0, 2 ** 32])
        self.assertEqual(self.straight(1), [0, 1, 2 ** 32])

    def test_the_nearest_whole_number(self):
        self.assertEqual(self.straight(3), [0, 3, 1431655765])
        self.assertEqual(self.straight(7), [0, 7, 613566757])
        self.assertEqual(self.straight(1, up=1), [0, 1, 3037000500])
        self.assertEqual(self.straight(10), [0, 10, 429496730])

    def test_the_air_on_whole_1024s(self):
        book = book_with(air0=16384, air1=32768, air2=8192, air3=0)
        self.assertEqual(self.straight(1023, book), [0, 1023, slow_gain(1023 ** 2, [], FULL_BOOK, 0)])
        self.assertEqual(self.straight(1024, book), [0, 1024, 2 ** 21])
        self.assertEqual(self.straight(1024, book, 1), [0, 1024, 2 ** 22])
        self.assertEqual(self.straight(1024, book, 2), [0, 1024, 2 ** 20])
        self.assertEqual(self.straight(1024, book, 3), [0])
        self.assertEqual(self.straight(2047, book), [0, 2047, 1049088])
        self.assertEqual(self.straight(2048, book), [0, 2048, 2 ** 19])
        self.assertEqual(self.straight(2048, book, 2), [0, 2048, 2 ** 17])
        self.assertEqual(self.straight(3072, book), [0, 3072, 174763])
        # 1,023 along and 5 up is below 1,024 still; 1,024 along and 5 up is above.
        self.assertEqual(self.straight(1023, book, up=5)[2], slow_gain(1023 ** 2 + 25, [], FULL_BOOK, 0))
        self.assertEqual(self.straight(1024, book, up=5)[2], slow_gain(1024 ** 2 + 25, [], book, 0))

    def test_the_air_of_a_path_with_turns(self):
        # There and back is twice as long: 600 and 600 have one 1,024, not none.
        book = book_with(s0b0=32768, air0=16384)
        room = room_row([(0, 0), (4000, 0), (4000, 2), (0, 2)], 2, stuffs=[1, 1, 1, 0], floor=1, ceiling=1)
        answer = one(taps_call(room, (600, 1, 1), (600, 1, 1), 1, 0, 1, 1, book))
        self.assertEqual(answer, [0, 0, 2 ** 32, 1200, 1789570])

    def test_each_wall_has_its_stuff_and_its_band(self):
        corners = [(0, 0), (40, 0), (40, 30), (0, 30)]
        room = room_row(corners, 50, floor=5, ceiling=6, stuffs=[1, 2, 3, 4])
        s = (18, 14, 20)
        far = {1: 28, 2: 44, 3: 32, 4: 36, 5: 40, 6: 60}
        for band in range(4):
            for stuff in range(1, 7):
                book = list(DEAD)
                book[4 * stuff + band] = 16384
                expected = [0, 0, 2 ** 32, far[stuff], (2 ** 31 * 2 // far[stuff] + 1) // 2]
                self.assertEqual(one(taps_call(room, s, s, 1, band, 1, 1, book)), expected)
                self.assertEqual(one(taps_call(room, s, s, 1, (band + 1) % 4, 1, 1, book)), [0, 0, 2 ** 32])

    def test_what_comes_back_is_multiplied(self):
        room = room_row(BOX, stuffs=[0, 1, 0, 2])
        book = book_with(s1b0=16384, s2b0=8192)
        answer = one(taps_call(room, (5, 5, 5), (5, 5, 5), 3, 0, 1, 1, book))
        # Length 10 by one wall, 20 by both, 30 by one of them twice.
        ten = 214748365 + 107374182
        twenty = 2 * 26843546
        thirty = 8947849 + 4473924
        self.assertEqual(answer, [0, 0, 2 ** 32, 10, ten, 20, twenty, 30, thirty])

    def test_two_as_near_give_the_greater(self):
        # Two walls leave 1 / 2^30: 4 / L. At L = 8 that's a half, at 10 less.
        for width, twice in ((4, 1), (5, 0)):
            room = room_row([(0, 0), (width, 0), (width, 6), (0, 6)], 6, stuffs=[7, 0, 7, 0], floor=7, ceiling=7)
            answer = one(taps_call(room, (2, 3, 3), (2, 3, 3), 2, 0, 1, 1, book_with(s0b0=1)))
            found = dict(zip(answer[1::2], answer[2::2]))
            self.assertEqual(found.get(2 * width, 0), 2 * twice)

    def test_the_least_part_by_one_wall(self):
        # A part of 1 leaves 2^17 / L.
        room = room_row([(0, 0), (256, 0), (256, 2), (0, 2)], 2, stuffs=[7, 0, 7, 7], floor=7, ceiling=7)
        for far, expected in ((128, 512), (64, 1024), (96, 683)):
            answer = one(taps_call(room, (256 - far, 1, 1), (256 - far, 1, 1), 1, 0, 1, 1, book_with(s0b0=1)))
            self.assertEqual(answer, [0, 0, 2 ** 32, 2 * far, expected])

    def test_gains_of_0_give_no_tap(self):
        self.assertEqual(one(taps_call(room_row(BOX), (1, 2, 3), (1, 2, 3), 3, 0, 1000, 1, DEAD)), [0, 0, 2 ** 32])
        # Gains that are 0 by rounding: 4 / 10 by two walls, while one wall leaves 2^17 / L.
        room = room_row([(0, 0), (5, 0), (5, 6), (0, 6)], 6, stuffs=[7, 0, 7, 0], floor=7, ceiling=7)
        answer = one(taps_call(room, (2, 3, 3), (2, 3, 3), 2, 0, 1, 1, book_with(s0b0=1)))
        self.assertEqual(answer, [0, 0, 2 ** 32, 4, 32768, 6, 21845])

    def test_paths_of_one_delay_are_summed(self):
        # At 1 sample in 1,000 units all paths of the box have the delay 0.
        one_by_one = one(taps_call(room_row(BOX), (1, 2, 3), (6, 4, 5), 2, 0, 192000, 100))
        together = one(taps_call(room_row(BOX), (1, 2, 3), (6, 4, 5), 2, 0, 1, 1000))
        self.assertEqual(together, [0, 0, sum(one_by_one[2::2])])
        self.assertGreater(len(one_by_one), 30)

    def test_delays_rise(self):
        answer = one(taps_call(room_row(BOX), (1, 2, 3), (6, 4, 5), 4, 0, 1000, 10))
        delays = answer[1::2]
        self.assertEqual(delays, sorted(set(delays)))

    def test_a_delay_of_two_as_near(self):
        room = room_row(BOX)
        self.assertEqual(one(taps_call(room, (1, 5, 5), (2, 5, 5), 0, 0, 1, 2)), [0, 1, 2 ** 32])
        self.assertEqual(one(taps_call(room, (1, 5, 5), (4, 5, 5), 0, 0, 1, 2)), [0, 2, 1431655765])


class Sums(unittest.TestCase):
    """Sums that no room in bounds comes near to."""

    def test_the_bound_of_a_sum(self):
        self.assertEqual(summed_taps([(3, TOP_GAIN - 1), (3, 1)]), [3, TOP_GAIN])
        self.assertEqual(summed_taps([(3, TOP_GAIN), (3, 1)]), [3, TOP_GAIN])
        self.assertEqual(summed_taps([(3, 2 ** 32)] * 300), [3, TOP_GAIN])
        self.assertEqual(summed_taps([(3, 2 ** 32)] * 255), [3, 255 * 2 ** 32])

    def test_sums_by_delay(self):
        self.assertEqual(summed_taps([(9, 5), (2, 1), (9, 6), (4, 0)]), [2, 1, 9, 11])
        self.assertEqual(summed_taps([(9, 0), (9, 0)]), [])
        self.assertEqual(summed_taps([]), [])

    def test_more_taps_than_4096(self):
        pairs = [(delay, 1) for delay in range(4096)]
        self.assertEqual(taps_answer(pairs)[0], 0)
        self.assertEqual(len(taps_answer(pairs)), 8193)
        self.assertEqual(taps_answer(pairs + [(4096, 1)]), [-8])
        # Neither a gain of 0 nor one more path of a delay makes one tap more.
        self.assertEqual(taps_answer(pairs + [(4096, 0), (5, 1)])[0], 0)

    def test_a_delay_too_long_comes_before_too_many(self):
        pairs = [(delay, 1) for delay in range(4097)]
        self.assertEqual(taps_answer(pairs + [(262144, 1)]), [-4])
        self.assertEqual(taps_answer([(262143, 1)]), [0, 262143, 1])
        self.assertEqual(taps_answer([(262144, 0)]), [-4])


if __name__ == "__main__":
    unittest.main()
