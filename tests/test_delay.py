"""The call delay."""

import random
import unittest

from tests.helper import BIG, delay_call, one, slow_delay

TOP_SQUARE = 2 ** 40


class Delay(unittest.TestCase):
    def check(self, square, rate, speed, answer):
        with self.subTest(square=square, rate=rate, speed=speed):
            self.assertEqual(one(delay_call(square, rate, speed)), answer)

    def test_ordinary_lengths(self):
        self.check(10000, 48000, 340, [0, 14118])
        self.check(9, 1000, 100, [0, 30])
        self.check(1, 1, 1, [0, 1])

    def test_lengths_that_are_not_whole(self):
        self.check(2, 1000, 1, [0, 1414])
        self.check(3, 1000, 1, [0, 1732])
        self.check(2, 100000, 1, [0, 141421])
        self.check(5, 10, 1, [0, 22])

    def test_two_as_near_give_the_greater(self):
        self.check(1, 1, 2, [0, 1])
        self.check(9, 1, 2, [0, 2])
        self.check(25, 1, 2, [0, 3])
        self.check(1, 3, 2, [0, 2])
        self.check(1, 1, 3, [0, 0])
        self.check(4, 1, 3, [0, 1])

    def test_hardly_below_the_half(self):
        # 4 * r^2 * (r^2 +- 1) is a square of an odd multiple of speed, less 1.
        self.check(191968 ** 2 + 1, 191968, 141187, [0, 261013])
        self.check(191935 ** 2 + 1, 191935, 140811, [0, 261620])
        self.check(191894 ** 2 + 1, 191894, 142251, [0, 258861])
        self.check(2, 40391, 114243, [0, 0])

    def test_hardly_above_the_half(self):
        self.check(2, 33461, 94642, [0, 1])
        self.check((524285 ** 2 + 3) // 4, 1, 1, [0, 262143])

    def test_no_length(self):
        self.check(0, 1, 1, [0, 0])
        self.check(0, 192000, 1, [0, 0])
        self.check(0, 1, 1048576, [0, 0])

    def test_the_longest_length(self):
        self.check(TOP_SQUARE, 1, 5, [0, 209715])
        self.check(TOP_SQUARE, 1, 1048576, [0, 1])
        self.check(TOP_SQUARE + 1, 1, 1048576, [-4])
        self.check(TOP_SQUARE - 1, 1, 1048576, [0, 1])
        self.check(BIG, 1, 1048576, [-4])

    def test_the_longest_delay(self):
        self.check(262143 ** 2, 1, 1, [0, 262143])
        self.check(262143 ** 2 + 262143, 1, 1, [0, 262143])
        self.check(262143 ** 2 + 262144, 1, 1, [-4])
        self.check(262144 ** 2, 1, 1, [-4])
        self.check(524287 ** 2, 1, 2, [-4])
        self.check(524286 ** 2, 1, 2, [0, 262143])
        self.check(TOP_SQUARE, 192000, 1, [-4])

    def test_bounds_of_the_rate(self):
        self.check(1, 0, 1, [-1])
        self.check(1, 1, 1, [0, 1])
        self.check(1, 192000, 1, [0, 192000])
        self.check(1, 192001, 1, [-1])
        self.check(1, BIG, 1, [-1])
        self.check(0, BIG, 1, [-1])

    def test_bounds_of_the_speed(self):
        self.check(1, 1, 0, [-1])
        self.check(1, 192000, 1048576, [0, 0])
        self.check(16, 192000, 1048576, [0, 1])
        self.check(1, 192000, 1048577, [-1])
        self.check(1, 1, BIG, [-1])

    def test_wrong_bounds_come_before_a_delay_too_long(self):
        self.check(BIG, 0, 1, [-1])
        self.check(BIG, 1, 0, [-1])
        self.check(TOP_SQUARE + 1, 192001, 1, [-1])
        self.check(TOP_SQUARE + 1, 1, 1048577, [-1])
        self.check(TOP_SQUARE, 192001, 1, [-1])

    def test_against_the_slow_reckoning(self):
        rng = random.Random(1)
        for turn in range(2000):
            square = rng.randrange(2 ** rng.randrange(1, 41))
            rate = rng.randrange(1, 192001)
            speed = rng.randrange(1, 2 ** rng.randrange(1, 21) + 1)
            delay = slow_delay(square, rate, speed)
            self.check(square, rate, speed, [-4] if delay > 262143 else [0, delay])


if __name__ == "__main__":
    unittest.main()
