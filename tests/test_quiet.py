"""The call quiet: whether anything but 0 will still come out."""

import random
import unittest

from tests.helper import (
    BEGIN, BIG, FULL_GAIN, LOW_SAMPLE, QUIET, TOP_GAIN, TOP_SAMPLE, SlowLine, last_on_one_line, on_one_line, one,
    run_call, set_call)

HALF = FULL_GAIN // 2


class Quiet(unittest.TestCase):
    def check(self, taps, samples, answer):
        with self.subTest(taps=taps, samples=samples):
            self.assertEqual(last_on_one_line(set_call(taps), run_call(samples), QUIET), [answer])
            self.assertEqual(last_on_one_line(run_call(samples), set_call(taps), QUIET), [answer])

    def test_no_taps(self):
        self.assertEqual(one(QUIET), [1])
        self.check([], [5, 6], 1)

    def test_no_samples(self):
        self.assertEqual(last_on_one_line(set_call([3, FULL_GAIN]), QUIET), [1])
        self.check([0, TOP_GAIN, 262143, TOP_GAIN], [], 1)

    def test_only_0_has_gone_in(self):
        self.check([0, TOP_GAIN, 5, TOP_GAIN], [0, 0, 0], 1)
        self.check([262143, TOP_GAIN], [0] * 200, 1)

    def test_a_sample_that_a_tap_will_still_bring(self):
        self.check([1, FULL_GAIN], [5], 0)
        self.check([1, FULL_GAIN], [0, 5], 0)
        self.check([3, FULL_GAIN], [5, 0, 0], 0)
        self.check([0, 1, 3, FULL_GAIN], [5, 0, 0], 0)
        self.check([262143, FULL_GAIN], [5], 0)
        self.check([262143, FULL_GAIN], [5] + [0] * 199, 0)
        self.check([199, -FULL_GAIN], [5] + [0] * 198, 0)

    def test_a_sample_that_is_behind_all_taps(self):
        self.check([0, FULL_GAIN], [5], 1)
        self.check([0, TOP_GAIN], [TOP_SAMPLE, LOW_SAMPLE], 1)
        self.check([1, FULL_GAIN], [5, 0], 1)
        self.check([3, FULL_GAIN], [5, 0, 0, 0], 1)
        self.check([0, FULL_GAIN, 1, FULL_GAIN, 2, FULL_GAIN], [7, 5, 0, 0], 1)
        self.check([199, FULL_GAIN], [5] + [0] * 199, 1)

    def test_each_sample_and_each_tap_counts(self):
        # Only the last but one sample, by the tap in the middle, is still brought.
        self.check([0, FULL_GAIN, 2, FULL_GAIN], [9, 9, 9, 0, 5, 0], 0)
        self.check([0, FULL_GAIN, 1, FULL_GAIN], [9, 9, 9, 0, 5, 0], 1)

    def test_what_comes_out_rounds_to_0(self):
        self.check([1, HALF - 1], [1], 1)
        self.check([1, HALF], [1], 0)
        self.check([1, HALF], [-1], 1)
        self.check([1, HALF + 1], [-1], 0)
        self.check([1, -HALF], [1], 1)
        self.check([1, -HALF - 1], [1], 0)
        self.check([1, 1], [HALF - 1], 1)
        self.check([1, 1], [HALF], 0)
        self.check([1, 1], [-HALF], 1)
        self.check([1, 1], [-HALF - 1], 0)

    def test_what_rounds_to_0_by_itself_but_not_together(self):
        # x(0) by delay 2 and x(1) by delay 1 come at one time: two quarters are a half.
        self.check([1, HALF // 2, 2, HALF // 2], [1, 1], 0)
        self.check([1, HALF // 2, 2, HALF // 2 - 1], [1, 1], 1)
        self.check([1, HALF // 2, 3, HALF // 2], [1, 1], 1)

    def test_two_taps_that_come_to_0_together(self):
        # At time 5 each of both taps alone would bring 64, at time 6 one of them a sixteenth.
        taps = [4, 2 ** 30, 5, -2 ** 20]
        self.check(taps, [1024, 1, 0, 0, 0], 1)
        self.check(taps[:2], [1024, 1, 0, 0, 0], 0)
        self.check(taps[2:], [1024, 1, 0, 0, 0], 0)
        # A sixteenth more or less each time, up to a half.
        for first, answer in ((1016, 0), (1017, 1), (1032, 1), (1033, 0)):
            self.check(taps, [first, 1, 0, 0, 0], answer)

    def test_what_comes_to_0_at_one_time_but_not_at_the_next(self):
        self.check([4, FULL_GAIN, 5, -FULL_GAIN], [7, 7, 0, 0, 0], 0)
        self.check([1, TOP_GAIN, 2, -TOP_GAIN], [TOP_SAMPLE, TOP_SAMPLE], 0)
        self.check([1, TOP_GAIN, 2, -TOP_GAIN], [TOP_SAMPLE, TOP_SAMPLE, 0], 0)
        self.check([1, TOP_GAIN, 2, -TOP_GAIN], [TOP_SAMPLE, TOP_SAMPLE, 0, 0], 1)

    def test_taps_set_later_bring_an_old_sample_once_more(self):
        asked = []
        calls = [set_call([0, FULL_GAIN]), run_call([5, 0])]
        for taps, answer in (([0, FULL_GAIN], 1), ([1, FULL_GAIN], 1), ([2, FULL_GAIN], 0), ([], 1),
                             ([0, 1, 262143, FULL_GAIN], 0), ([1, TOP_GAIN, 2, HALF // 5], 1)):
            calls += [set_call(taps), QUIET]
            asked += [[0], [answer]]
        self.assertEqual(on_one_line(*calls)[2:], asked)

    def test_a_sample_brought_once_more_and_gone_again(self):
        found = on_one_line(set_call([0, FULL_GAIN]), run_call([5, 0]), QUIET, set_call([2, FULL_GAIN]), QUIET,
                            run_call([0]), QUIET)
        self.assertEqual(found[2:], [[1], [0], [0], [0, 0, 5], [1]])

    def test_behind_a_set_that_was_refused(self):
        found = on_one_line(set_call([1, FULL_GAIN]), run_call([5]), set_call([0]), QUIET)
        self.assertEqual(found[2:], [[-1], [0]])

    def test_behind_a_run_that_was_refused(self):
        found = on_one_line(set_call([1, FULL_GAIN]), run_call([5, BIG]), QUIET,
                            run_call([5]), run_call([0, BIG]), QUIET)
        self.assertEqual([found[2], found[5]], [[1], [0]])

    def test_behind_begin(self):
        found = on_one_line(set_call([1, FULL_GAIN]), run_call([5]), BEGIN, QUIET, set_call([1, FULL_GAIN]), QUIET)
        self.assertEqual([found[3], found[5]], [[1], [1]])

    def test_asking_changes_nothing(self):
        found = on_one_line(set_call([1, FULL_GAIN]), run_call([5]), QUIET, QUIET, run_call([0]), QUIET, QUIET)
        self.assertEqual(found[2:], [[0], [0], [0, 0, 5], [1], [1]])

    def test_the_most_that_is_asked_of_one_list(self):
        taps = [number for delay in range(262103, 262143) for number in (delay, FULL_GAIN)]
        found = on_one_line(set_call(taps), run_call([0] * 199 + [1]), *[QUIET] * 28)
        self.assertEqual(found[2:], [[0]] * 28)


class AgainstTheSlowReckoning(unittest.TestCase):
    def test_lines_by_chance(self):
        rng = random.Random(8)
        seen = [0, 0]
        gains = (HALF, -HALF, HALF - 1, FULL_GAIN, -FULL_GAIN, HALF // 2, 1)
        for turn in range(600):
            calls, expected, line = [], [], SlowLine()
            for step in range(10):
                delays = sorted(rng.sample(range(7), rng.randrange(4)))
                taps = [number for delay in delays for number in (delay, rng.choice(gains))]
                samples = [rng.choice((0, 0, 0, 1, -1, 2)) for k in range(rng.randrange(5))]
                if rng.randrange(2) == 0:
                    calls.append(set_call(taps))
                    expected.append(line.set(taps))
                calls += [run_call(samples), QUIET]
                expected += [line.run(samples), line.quiet()]
                seen[expected[-1][0]] += 1
            self.assertEqual(on_one_line(*calls), expected, calls)
        self.assertGreater(min(seen), 500)


if __name__ == "__main__":
    unittest.main()
