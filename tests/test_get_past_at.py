"""The calls get, past and at: what a line has."""

import random
import unittest

from tests.helper import (
    AT, BEGIN, BIG, BOX, FULL_GAIN, GET, LOW_SAMPLE, QUIET, TOP_GAIN, TOP_SAMPLE, SlowLine, delay_call, judge_call,
    last_on_one_line, on_one_line, one, past_call, room_row, run_call, set_call, taps_call)


class Get(unittest.TestCase):
    def test_before_any_set(self):
        self.assertEqual(one(GET), [0])
        self.assertEqual(last_on_one_line(run_call([1, 2]), GET), [0])

    def test_behind_a_set(self):
        for taps in ([], [3, 5], [0, -1, 7, 8, 262143, TOP_GAIN], [0, -TOP_GAIN]):
            self.assertEqual(last_on_one_line(set_call(taps), GET), [0] + taps)

    def test_forty_taps(self):
        taps = [number for delay in range(40) for number in (delay * 6000, delay - 100)]
        self.assertEqual(last_on_one_line(set_call(taps), GET), [0] + taps)

    def test_the_last_set_counts(self):
        found = on_one_line(set_call([3, 5, 4, 6]), GET, set_call([9, 1]), GET, set_call([]), GET)
        self.assertEqual(found[1::2], [[0, 3, 5, 4, 6], [0, 9, 1], [0]])

    def test_behind_a_set_that_was_refused(self):
        for wrong, refusal in (([5], [-1]), ([-1, 1], [-1]), ([0, 0], [-7, 0]), ([0, 1, 0, 1], [-7, 1])):
            found = on_one_line(set_call(wrong), GET, set_call([3, 5]), set_call(wrong), GET)
            self.assertEqual(found, [refusal, [0], [0], refusal, [0, 3, 5]])

    def test_behind_begin(self):
        found = on_one_line(set_call([3, 5]), BEGIN, GET, set_call([4, 6]), GET)
        self.assertEqual(found[2:], [[0], [0], [0, 4, 6]])

    def test_other_calls_leave_the_taps(self):
        room = room_row(BOX)
        others = (run_call([1, 2]), run_call([BIG]), past_call(0), past_call(BIG), AT, QUIET, GET, judge_call([9, 9]),
                  judge_call([0]), delay_call(1, 1, 1), taps_call(room, (1, 2, 3), (4, 5, 6), 1))
        for other in others:
            self.assertEqual(last_on_one_line(set_call([3, 5]), other, GET), [0, 3, 5])


class Past(unittest.TestCase):
    def pasts(self, before, backs):
        return on_one_line(*before, *[past_call(back) for back in backs])[len(before):]

    def test_before_any_sample(self):
        self.assertEqual(self.pasts([], (0, 1, 199, 262143)), [[0, 0]] * 4)

    def test_back_to_the_first_and_before_it(self):
        found = self.pasts([run_call([5, -6, 7])], (0, 1, 2, 3, 4, 262143))
        self.assertEqual(found, [[0, 7], [0, -6], [0, 5], [0, 0], [0, 0], [0, 0]])

    def test_over_several_runs(self):
        found = self.pasts([run_call([5]), run_call([]), run_call([6, 7])], (0, 1, 2, 3))
        self.assertEqual(found, [[0, 7], [0, 6], [0, 5], [0, 0]])

    def test_two_hundred_samples(self):
        found = self.pasts([run_call(list(range(1, 201)))], (0, 198, 199, 200, 201))
        self.assertEqual(found, [[0, 200], [0, 2], [0, 1], [0, 0], [0, 0]])

    def test_what_went_in_and_not_what_came_out(self):
        found = self.pasts([set_call([0, TOP_GAIN]), run_call([TOP_SAMPLE, LOW_SAMPLE, 1])], (0, 1, 2))
        self.assertEqual(found, [[0, 1], [0, LOW_SAMPLE], [0, TOP_SAMPLE]])

    def test_bounds_of_back(self):
        for before in ([], [run_call([5])]):
            found = self.pasts(before, (262143, 262144, 262145, BIG))
            self.assertEqual(found, [[0, 0], [-1], [-1], [-1]])

    def test_behind_a_run_that_was_refused(self):
        found = self.pasts([run_call([5]), run_call([6, TOP_SAMPLE + 1])], (0, 1))
        self.assertEqual(found, [[0, 5], [0, 0]])

    def test_behind_begin(self):
        self.assertEqual(self.pasts([run_call([5, 6]), BEGIN], (0, 1)), [[0, 0], [0, 0]])
        self.assertEqual(self.pasts([run_call([5, 6]), BEGIN, run_call([7])], (0, 1)), [[0, 7], [0, 0]])

    def test_taps_do_not_matter(self):
        self.assertEqual(self.pasts([run_call([5]), set_call([0, FULL_GAIN]), run_call([6])], (0, 1)), [[0, 6], [0, 5]])


class At(unittest.TestCase):
    def test_before_any_sample(self):
        self.assertEqual(one(AT), [0])
        self.assertEqual(last_on_one_line(run_call([]), set_call([3, 5]), AT), [0])

    def test_behind_several_runs(self):
        found = on_one_line(run_call([5]), AT, run_call([0, 0, 0]), AT, run_call([]), AT, run_call([1] * 196), AT)
        self.assertEqual(found[1::2], [[1], [4], [4], [200]])

    def test_behind_a_run_that_was_refused(self):
        found = on_one_line(run_call([BIG]), AT, run_call([5]), run_call([1, 2, LOW_SAMPLE - 1]), AT)
        self.assertEqual([found[1], found[4]], [[0], [1]])

    def test_behind_begin(self):
        found = on_one_line(run_call([5, 6]), BEGIN, AT, run_call([7]), AT)
        self.assertEqual([found[2], found[4]], [[0], [1]])

    def test_other_calls_leave_it(self):
        others = (set_call([3, 5]), set_call([3]), GET, past_call(0), past_call(BIG), AT, QUIET, judge_call([9, 9]),
                  delay_call(1, 1, 1), taps_call(room_row(BOX), (1, 2, 3), (4, 5, 6), 1))
        for other in others:
            self.assertEqual(last_on_one_line(run_call([5, 6]), other, AT), [2])


class AgainstTheSlowReckoning(unittest.TestCase):
    def test_lines_by_chance(self):
        rng = random.Random(7)
        for turn in range(300):
            calls, expected, line = [], [], SlowLine()
            for step in range(30):
                kind = rng.randrange(5)
                if kind == 0:
                    samples = [rng.randrange(-9, 10) for k in range(rng.randrange(5))] + [BIG] * (rng.randrange(5) == 0)
                    calls.append(run_call(samples))
                    expected.append(line.run(samples))
                elif kind == 1:
                    back = rng.choice((rng.randrange(12), 262143, 262144))
                    calls.append(past_call(back))
                    expected.append(line.past(back))
                elif kind == 2:
                    calls.append(AT)
                    expected.append(line.at())
                elif kind == 3:
                    taps = [number for k in range(rng.randrange(4)) for number in (k, k + 1)]
                    calls.append(set_call(taps))
                    expected.append(line.set(taps))
                else:
                    calls.append(GET)
                    expected.append(line.get())
            self.assertEqual(on_one_line(*calls), expected, calls)


if __name__ == "__main__":
    unittest.main()
