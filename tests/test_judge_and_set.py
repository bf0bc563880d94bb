"""The calls judge, set and begin, and what they do to a line."""

import unittest

from roomtaps.lines import Line, begin_answer, set_answer
from tests.helper import BIG, LOW, TOP_GAIN, judge_call, one, set_call

SHORT_CASES = [
    # taps, answer
    ([], [0]),
    ([0, 1], [0]),
    ([0, 1, 1, -1], [0]),
    ([5, 7, 6, -7, 262143, 1], [0]),
    # an odd count
    ([0], [-1]),
    ([0, 1, 2], [-1]),
    ([BIG], [-1]),
    ([5, 0, 5], [-1]),
    # a delay below 0, also behind a tap that's wrong otherwise
    ([-1, 1], [-1]),
    ([LOW, 1], [-1]),
    ([0, 1, -1, 1], [-1]),
    ([0, 0, 5, 1, -1, 1], [-1]),
    ([262144, 1, -5, 1], [-1]),
    ([-1, 0], [-1]),
    # bounds of the delay
    ([262143, 1], [0]),
    ([262144, 1], [-7, 0]),
    ([BIG, 1], [-7, 0]),
    ([0, 1, 262144, 1], [-7, 1]),
    # bounds of the gain
    ([0, TOP_GAIN], [0]),
    ([0, -TOP_GAIN], [0]),
    ([0, TOP_GAIN + 1], [-7, 0]),
    ([0, -TOP_GAIN - 1], [-7, 0]),
    ([0, BIG], [-7, 0]),
    ([0, LOW], [-7, 0]),
    ([0, 0], [-7, 0]),
    ([0, 1, 1, 0], [-7, 1]),
    # a gain may well be below 0, and as low as a delay may not
    ([0, -1], [0]),
    # delays that don't rise
    ([5, 1, 5, 1], [-7, 1]),
    ([5, 1, 4, 1], [-7, 1]),
    ([5, 1, 6, 1, 6, 1, 7, 1], [-7, 2]),
    ([0, 1, 0, 1], [-7, 1]),
    ([5, 1, 9, 1, 7, 1], [-7, 2]),
    # the first of several
    ([0, 1, 1, 0, 0, 0, 262144, BIG], [-7, 1]),
    ([1, 1, 0, 1, 5, 0], [-7, 1]),
    ([262144, 1, 0, 1], [-7, 0]),
    ([0, 1, 1, 1, 2, 1, 3, TOP_GAIN + 1], [-7, 3]),
]


def rising(count):
    return [number for delay in range(count) for number in (delay, 1)]


class Judge(unittest.TestCase):
    def test_short_lists(self):
        for taps, answer in SHORT_CASES:
            with self.subTest(taps=taps):
                self.assertEqual(one(judge_call(taps)), answer)

    def test_how_many_taps(self):
        self.assertEqual(one(judge_call(rising(4096))), [0])
        self.assertEqual(one(judge_call(rising(4097))), [-1])
        self.assertEqual(one(judge_call(rising(7950))), [-1])
        self.assertEqual(one(judge_call(rising(4096) + [0])), [-1])

    def test_too_many_come_before_a_wrong_one(self):
        self.assertEqual(one(judge_call([0, 0] * 4097)), [-1])
        self.assertEqual(one(judge_call([0, 0] * 4096)), [-7, 0])

    def test_the_last_of_many(self):
        self.assertEqual(one(judge_call(rising(4095) + [4094, 1])), [-7, 4095])
        self.assertEqual(one(judge_call(rising(4095) + [262143, -TOP_GAIN])), [0])


class Set(unittest.TestCase):
    def test_short_lists(self):
        for taps, answer in SHORT_CASES:
            with self.subTest(taps=taps):
                self.assertEqual(one(set_call(taps)), answer)

    def test_forty_taps(self):
        self.assertEqual(one(set_call(rising(40))), [0])
        self.assertEqual(one(set_call(rising(39) + [38, 1])), [-7, 39])
        self.assertEqual(one(set_call(rising(39) + [39])), [-1])

    def test_a_line_has_its_taps(self):
        line = Line()
        self.assertEqual(line.taps, [])
        self.assertEqual(set_answer(line, [3, 5, 4, -5]), [0])
        self.assertEqual(line.taps, [3, 5, 4, -5])
        self.assertEqual(set_answer(line, []), [0])
        self.assertEqual(line.taps, [])

    def test_what_is_refused_changes_nothing(self):
        for taps, answer in SHORT_CASES:
            if answer != [0]:
                line = Line()
                set_answer(line, [3, 5])
                line.samples = [1, 2]
                self.assertEqual(set_answer(line, taps), answer)
                self.assertEqual(line.taps, [3, 5])
                self.assertEqual(line.samples, [1, 2])

    def test_what_has_gone_in_stays(self):
        line = Line()
        line.samples = [1, 2]
        set_answer(line, [3, 5])
        self.assertEqual(line.samples, [1, 2])

    def test_a_line_keeps_a_copy(self):
        taps = [3, 5]
        line = Line()
        set_answer(line, taps)
        taps[0] = 4
        self.assertEqual(line.taps, [3, 5])


class Begin(unittest.TestCase):
    def test_its_answer(self):
        self.assertEqual(one([4]), [0])

    def test_no_taps_and_no_samples(self):
        line = Line()
        self.assertEqual(line.samples, [])
        set_answer(line, [3, 5])
        line.samples = [1, 2]
        self.assertEqual(begin_answer(line), [0])
        self.assertEqual(line.taps, [])
        self.assertEqual(line.samples, [])


if __name__ == "__main__":
    unittest.main()
