"""The call run: what comes out of a line's taps."""

import random
import unittest

from tests.helper import (
    AT, BEGIN, BIG, FULL_GAIN, GET, LOW, LOW_SAMPLE, TOP_GAIN, TOP_SAMPLE, SlowLine, last_on_one_line, on_one_line,
    one, past_call, run_call, set_call)

HALF = FULL_GAIN // 2


class RunCase(unittest.TestCase):
    def check(self, taps, samples, held, out):
        with self.subTest(taps=taps, samples=samples):
            self.assertEqual(last_on_one_line(set_call(taps), run_call(samples)), [0, held] + out)


class Run(RunCase):
    def test_no_samples(self):
        self.assertEqual(one(run_call([])), [0, 0])
        self.check([0, FULL_GAIN], [], 0, [])

    def test_no_taps(self):
        self.assertEqual(one(run_call([5, -6, TOP_SAMPLE])), [0, 0, 0, 0, 0])
        self.check([], [5], 0, [0])

    def test_a_tap_of_delay_0(self):
        self.check([0, FULL_GAIN], [7], 0, [7])
        self.check([0, FULL_GAIN], [7, -8, 0, 9], 0, [7, -8, 0, 9])
        self.check([0, -FULL_GAIN], [7, -8, 0, 9], 0, [-7, 8, 0, -9])
        self.check([0, 3 * FULL_GAIN], [7, -8, 0, 9], 0, [21, -24, 0, 27])

    def test_taps_of_later_delays(self):
        self.check([1, FULL_GAIN], [7, 8, 9], 0, [0, 7, 8])
        self.check([2, FULL_GAIN], [7, 8, 9], 0, [0, 0, 7])
        self.check([3, FULL_GAIN], [7, 8, 9], 0, [0, 0, 0])

    def test_several_taps(self):
        taps = [0, FULL_GAIN, 1, 10 * FULL_GAIN, 3, -100 * FULL_GAIN]
        self.check(taps, [1, 2, 3, 4, 5], 0, [1, 12, 23, -66, -155])

    def test_a_delay_beyond_all_that_has_gone_in(self):
        self.check([262143, FULL_GAIN], [7] * 200, 0, [0] * 200)
        self.check([0, FULL_GAIN, 262143, FULL_GAIN], [7, 8], 0, [7, 8])
        self.check([199, FULL_GAIN], list(range(1, 201)), 0, [0] * 199 + [1])
        self.check([200, FULL_GAIN], list(range(1, 201)), 0, [0] * 200)

    def test_forty_taps_and_two_hundred_samples(self):
        taps = [number for delay in range(0, 80, 2) for number in (delay, FULL_GAIN)]
        out = [len(range(0, min(time, 78) + 1, 2)) for time in range(200)]
        self.check(taps, [1] * 200, 0, out)

    def test_what_has_gone_in_before_counts(self):
        found = on_one_line(set_call([2, FULL_GAIN]), run_call([5, 6]), run_call([7]), run_call([]), run_call([8, 9]))
        self.assertEqual(found[1:], [[0, 0, 0, 0], [0, 0, 5], [0, 0], [0, 0, 6, 7]])

    def test_what_has_gone_in_before_counts_by_taps_set_later(self):
        found = on_one_line(run_call([5, 6, 7]), set_call([2, FULL_GAIN]), run_call([0, 0]),
                            set_call([0, FULL_GAIN, 4, 10 * FULL_GAIN]), run_call([1, 2, 3]))
        self.assertEqual(found, [[0, 0, 0, 0, 0], [0], [0, 0, 6, 7], [0], [0, 0, 61, 72, 3]])

    def test_taps_that_are_gone_bring_nothing(self):
        found = on_one_line(set_call([1, FULL_GAIN]), run_call([5]), set_call([]), run_call([0, 1]))
        self.assertEqual(found[3], [0, 0, 0, 0])

    def test_taps_that_were_refused_bring_nothing(self):
        found = on_one_line(set_call([1, FULL_GAIN]), run_call([5]), set_call([0, 0]), set_call([0]), run_call([6, 7]))
        self.assertEqual(found[2:], [[-7, 0], [-1], [0, 0, 5, 6]])

    def test_behind_begin(self):
        found = on_one_line(set_call([0, FULL_GAIN]), run_call([5, 6]), BEGIN, run_call([7]), set_call([1, FULL_GAIN]),
                            run_call([8, 9]), BEGIN, set_call([1, FULL_GAIN]), run_call([1, 2]))
        self.assertEqual([found[k] for k in (1, 3, 5, 8)], [[0, 0, 5, 6], [0, 0, 0], [0, 0, 7, 8], [0, 0, 0, 1]])


class Rounding(RunCase):
    def test_two_as_near_give_the_greater(self):
        self.check([0, HALF], [1, 2, 3, 5, 101], 0, [1, 1, 2, 3, 51])
        self.check([0, HALF], [-1, -2, -3, -5, -101], 0, [0, -1, -1, -2, -50])
        self.check([0, -HALF], [1, 3, -1, -3], 0, [0, -1, 1, 2])
        self.check([0, 1], [HALF, 3 * HALF, -HALF, -3 * HALF], 0, [1, 2, 0, -1])

    def test_hardly_below_a_half_and_above(self):
        self.check([0, HALF - 1], [1, -1], 0, [0, 0])
        self.check([0, HALF + 1], [1, -1], 0, [1, -1])
        self.check([0, 3 * HALF - 1], [1, -1], 0, [1, -1])
        self.check([0, 3 * HALF + 1], [1, -1], 0, [2, -2])
        self.check([0, 1], [HALF - 1, HALF + 1, 1 - HALF, -1 - HALF], 0, [0, 1, 0, -1])

    def test_the_least_gains(self):
        self.check([0, 1], [1, -1, FULL_GAIN, -FULL_GAIN], 0, [0, 0, 1, -1])
        self.check([0, 1], [TOP_SAMPLE, LOW_SAMPLE], 0, [128, -128])
        self.check([0, -1], [TOP_SAMPLE, LOW_SAMPLE], 0, [-128, 128])

    def test_all_taps_are_rounded_once(self):
        # Two quarters are a half, and two halves one: not 0, not 2.
        self.check([0, HALF // 2, 1, HALF // 2], [1, 1], 0, [0, 1])
        self.check([0, HALF, 1, HALF], [1, 1, 1], 0, [1, 1, 1])
        self.check([0, HALF, 1, HALF], [-1, -1, -1], 0, [0, -1, -1])
        self.check([0, HALF, 1, -HALF], [1, 1, 0], 0, [1, 0, 0])

    def test_sums_beyond_2_to_the_53(self):
        # The great parts undo each other; what's left is hardly below a half, or a half.
        for last, out in ((HALF - 1, 0), (HALF, 1)):
            taps = [0, -TOP_GAIN, 1, TOP_GAIN, 2, 1]
            answer = last_on_one_line(set_call(taps), run_call([last, TOP_SAMPLE, TOP_SAMPLE]))
            self.assertEqual(answer[-1], out)


class Holding(RunCase):
    def test_what_comes_to_an_end_is_not_held(self):
        self.check([0, FULL_GAIN], [TOP_SAMPLE, LOW_SAMPLE], 0, [TOP_SAMPLE, LOW_SAMPLE])
        self.check([0, 2 * FULL_GAIN], [-2 ** 30], 0, [LOW_SAMPLE])
        self.check([0, -FULL_GAIN], [TOP_SAMPLE], 0, [-TOP_SAMPLE])

    def test_what_comes_beyond_an_end_is_held(self):
        self.check([0, 2 * FULL_GAIN], [2 ** 30], 1, [TOP_SAMPLE])
        self.check([0, 2 * FULL_GAIN], [-2 ** 30 - 1], 1, [LOW_SAMPLE])
        self.check([0, -FULL_GAIN], [LOW_SAMPLE], 1, [TOP_SAMPLE])
        self.check([0, TOP_GAIN], [TOP_SAMPLE, LOW_SAMPLE, 1, -1], 2, [TOP_SAMPLE, LOW_SAMPLE, 65536, -65536])

    def test_rounding_comes_before_holding(self):
        # A half above the upper end is beyond it, a half below the lower end is not.
        for gain, first, last, held in ((HALF, 1, TOP_SAMPLE, 1), (HALF - 1, 1, TOP_SAMPLE, 0),
                                        (HALF, -1, LOW_SAMPLE, 0), (HALF + 1, -1, LOW_SAMPLE, 1)):
            with self.subTest(gain=gain, first=first):
                answer = last_on_one_line(set_call([0, FULL_GAIN, 1, gain]), run_call([first, last]))
                self.assertEqual(answer, [0, held, first, last])

    def test_all_taps_are_held_once(self):
        # Each tap brings more than a sample can be, both together nothing.
        self.check([0, 2 * FULL_GAIN, 1, -2 * FULL_GAIN], [TOP_SAMPLE] * 3 + [0], 2,
                   [TOP_SAMPLE, 0, 0, LOW_SAMPLE])

    def test_how_many_of_several_were_held(self):
        self.check([0, 4 * FULL_GAIN], [2 ** 29, 1, -2 ** 29, -2 ** 29 - 1, TOP_SAMPLE, 2 ** 29 - 1], 3,
                   [TOP_SAMPLE, 4, LOW_SAMPLE, LOW_SAMPLE, TOP_SAMPLE, 2 ** 31 - 4])
        self.check([0, TOP_GAIN], [TOP_SAMPLE] * 200, 200, [TOP_SAMPLE] * 200)

    def test_each_run_counts_its_own(self):
        found = on_one_line(set_call([0, 2 * FULL_GAIN]), run_call([2 ** 30, 2 ** 30]), run_call([1]),
                            run_call([2 ** 30]))
        self.assertEqual([answer[1] for answer in found[1:]], [2, 0, 1])

    def test_what_was_held_went_in_unheld(self):
        found = on_one_line(set_call([0, TOP_GAIN]), run_call([TOP_SAMPLE]), set_call([1, FULL_GAIN]), run_call([0]))
        self.assertEqual(found[3], [0, 0, TOP_SAMPLE])


class Refused(unittest.TestCase):
    WRONG = (TOP_SAMPLE + 1, LOW_SAMPLE - 1, BIG, LOW)

    def test_bounds_of_a_sample(self):
        for wrong in self.WRONG:
            for samples in ([wrong], [wrong, 0], [0, wrong], [1, wrong, 2], [0] * 199 + [wrong], [wrong] * 200):
                self.assertEqual(one(run_call(samples)), [-1])
        self.assertEqual(one(run_call([TOP_SAMPLE, LOW_SAMPLE])), [0, 0, 0, 0])

    def test_it_changes_nothing(self):
        for wrong in self.WRONG:
            taps = [0, FULL_GAIN, 2, 10 * FULL_GAIN]
            found = on_one_line(set_call(taps), run_call([5, 6]), run_call([7, 8, wrong]), AT, past_call(0),
                                past_call(1), past_call(2), GET, run_call([1, 2, 3]))
            self.assertEqual(found[2:], [[-1], [2], [0, 6], [0, 5], [0, 0], [0] + taps, [0, 0, 51, 62, 13]])


class AgainstTheSlowReckoning(unittest.TestCase):
    def taps(self, rng):
        delays = sorted(rng.sample(range(12), rng.randrange(6)))
        top = rng.choice((2, 2 ** 23, 2 ** 24, 2 ** 25, 2 ** 30, TOP_GAIN))
        gains = [rng.choice((-1, 1)) * rng.choice((top, rng.randrange(1, top + 1))) for delay in delays]
        return [number for pair in zip(delays, gains) for number in pair]

    def samples(self, rng):
        top = rng.choice((1, 5, 2 ** 12, 2 ** 31 - 1))
        return [rng.choice((0, top, -top, rng.randrange(-top, top + 1))) for k in range(rng.randrange(9))]

    def test_lines_by_chance(self):
        rng = random.Random(6)
        held = 0
        for turn in range(400):
            calls, expected, line = [], [], SlowLine()
            for step in range(12):
                taps, samples = self.taps(rng), self.samples(rng)
                if rng.randrange(3) == 0:
                    calls.append(set_call(taps))
                    expected.append(line.set(taps))
                calls.append(run_call(samples))
                expected.append(line.run(samples))
                held += expected[-1][1]
            self.assertEqual(on_one_line(*calls), expected, calls)
        self.assertGreater(held, 100)


if __name__ == "__main__":
    unittest.main()
