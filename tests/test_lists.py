"""Several calls in one list, and what a list's answers don't depend on."""

import unittest

from roomtaps.taps import answers
from tests.helper import (
    AT, BEGIN, BIG, BOX, FULL_BOOK, FULL_GAIN, GET, LOW, QUIET, TOP_SAMPLE, delay_call, joined, judge_call, on_one_line,
    one, past_call, room_row, run_call, set_call, split, taps_call)

ROOM = room_row(BOX)

CALLS = [
    delay_call(10000, 48000, 340),
    taps_call(ROOM, (5, 5, 5), (5, 5, 8)),
    judge_call([0, 1]),
    [4],
    set_call([0, 1, 5, -1]),
    delay_call(BIG, 1, 1),
    delay_call(1, 0, 1),
    taps_call([], (5, 5, 5), (5, 5, 8)),
    taps_call(ROOM, (5, 5, 5), (5, 5, 8), book=[]),
    taps_call(ROOM, (LOW, LOW, LOW), (BIG, BIG, BIG)),
    judge_call([]),
    judge_call([0, 0]),
    set_call([5]),
    set_call([]),
    [4],
    taps_call(ROOM, (5, 5, 5), (5, 5, 5), 2),
]

# Thirty calls of all kinds on one line, and their answers.
ONE_LINE = [
    (QUIET, [1]),
    (AT, [0]),
    (GET, [0]),
    (past_call(0), [0, 0]),
    (run_call([5, 6]), [0, 0, 0, 0]),
    (set_call([0, FULL_GAIN, 2, 10 * FULL_GAIN]), [0]),
    (QUIET, [0]),
    (delay_call(10000, 48000, 340), [0, 14118]),
    (run_call([7]), [0, 0, 57]),
    (taps_call(ROOM, (5, 5, 5), (5, 5, 8)), [0, 30, 1431655765]),
    (run_call([8, TOP_SAMPLE + 1]), [-1]),
    (AT, [3]),
    (past_call(2), [0, 5]),
    (past_call(262144), [-1]),
    (set_call([0, 0]), [-7, 0]),
    (judge_call([1, 1]), [0]),
    (GET, [0, 0, FULL_GAIN, 2, 10 * FULL_GAIN]),
    (run_call([TOP_SAMPLE, 0]), [0, 1, TOP_SAMPLE, 70]),
    (QUIET, [0]),
    (run_call([-TOP_SAMPLE, 0]), [0, 1, TOP_SAMPLE, 0]),
    (past_call(0), [0, 0]),
    (past_call(1), [0, -TOP_SAMPLE]),
    (taps_call([], (5, 5, 5), (5, 5, 8)), [-5, 1, 0]),
    (set_call([4, -FULL_GAIN]), [0]),
    (run_call([0, 0]), [0, 0, -TOP_SAMPLE, 0]),
    (BEGIN, [0]),
    (AT, [0]),
    (GET, [0]),
    (run_call([9]), [0, 0, 0]),
    (past_call(0), [0, 9]),
]


class OneLine(unittest.TestCase):
    def test_calls_of_all_kinds(self):
        self.assertEqual(len(ONE_LINE), 30)
        for (call, answer), found in zip(ONE_LINE, on_one_line(*[call for call, answer in ONE_LINE])):
            self.assertEqual(found, answer, call)

    def test_each_answer_has_its_count_before_it(self):
        given = answers(joined(call for call, answer in ONE_LINE))
        self.assertEqual(given, [number for call, answer in ONE_LINE for number in [len(answer)] + answer])

    def test_a_line_ends_with_its_list(self):
        answers(set_call([0, FULL_GAIN, 1, FULL_GAIN]) + run_call([5, 6]))
        self.assertEqual([one(call) for call in (AT, GET, QUIET, past_call(0))], [[0], [0], [1], [0, 0]])
        self.assertEqual(one(run_call([7])), [0, 0, 0])

    def test_what_is_handed_in_stays(self):
        calls = joined(call for call, answer in ONE_LINE)
        before = list(calls)
        answers(calls)
        self.assertEqual(calls, before)

    def test_a_second_time_gives_the_same(self):
        calls = joined(call for call, answer in ONE_LINE)
        first = answers(calls)
        kept = list(first)
        self.assertEqual(answers(calls), kept)
        first.clear()
        self.assertEqual(answers(calls), kept)

    def test_the_taps_that_get_answers_are_no_ones_own(self):
        calls = set_call([3, 5]) + GET + GET
        given = answers(calls)
        given[-1] = 7
        self.assertEqual(answers(calls), [1, 0, 3, 0, 3, 5, 3, 0, 3, 5])

    def test_numbers_in_rows_are_no_calls(self):
        self.assertEqual(on_one_line(run_call([9, 9, 10]), AT, past_call(4), AT), [[0, 0, 0, 0, 0], [3], [0, 0], [3]])

    def test_whole_numbers_come_out(self):
        given = answers(joined(call for call, answer in ONE_LINE))
        self.assertEqual({type(number) for number in given}, {int})


class GreatNumbers(unittest.TestCase):
    """To 2^63 either way wherever they may be handed in."""

    def test_each_place_of_the_short_calls(self):
        for call in (delay_call(4, 48000, 340), past_call(0)):
            for place in range(1, len(call)):
                great = call[:place] + [BIG] + call[place + 1:]
                self.assertIn(one(great), ([-1], [-4]))
        self.assertEqual(one(delay_call(BIG, BIG, BIG)), [-1])

    def test_each_number_of_the_rows(self):
        for great in (BIG, LOW):
            for call in (judge_call, set_call):
                self.assertEqual(one(call([great, 1])), [-7, 0] if great == BIG else [-1])
                self.assertEqual(one(call([0, great])), [-7, 0])
                self.assertEqual(one(call([0, 1, 5, great])), [-7, 1])
            self.assertEqual(one(run_call([great])), [-1])
            self.assertEqual(one(run_call([1, great, 2])), [-1])

    def test_each_place_of_the_call_taps(self):
        call = taps_call(ROOM, (5, 5, 5), (5, 5, 8), 1)
        refusals = [[-3]] * 6 + [[-1]] * 4
        for place, refusal in enumerate(refusals, start=1):
            self.assertEqual(one(call[:place] + [BIG] + call[place + 1:]), refusal)
            if place <= 6:
                self.assertEqual(one(call[:place] + [LOW] + call[place + 1:]), refusal)
        for place in range(len(ROOM)):
            for great in (BIG, LOW):
                fault = one(taps_call(ROOM[:place] + [great] + ROOM[place + 1:], (5, 5, 5), (5, 5, 8)))
                self.assertEqual(fault, [-5, 2, 0] if place < 3 else [-5, 3, place // 3 - 1])
        for place in range(36):
            book = FULL_BOOK[:place] + [BIG] + FULL_BOOK[place + 1:]
            self.assertEqual(one(taps_call(ROOM, (5, 5, 5), (5, 5, 8), book=book)), [-6, place])


class Lists(unittest.TestCase):
    def test_each_answer_has_its_count_before_it(self):
        self.assertEqual(answers(joined(CALLS[:9])), [
            2, 0, 14118,
            3, 0, 30, 1431655765,
            1, 0,
            1, 0,
            1, 0,
            1, -4,
            1, -1,
            3, -5, 1, 0,
            2, -6, 0,
        ])

    def test_calls_one_behind_another(self):
        self.assertEqual(split(answers(joined(CALLS))), [one(call) for call in CALLS])

    def test_any_call_may_be_first(self):
        for k in range(len(CALLS)):
            turned = CALLS[k:] + CALLS[:k]
            self.assertEqual(split(answers(joined(turned))), [one(call) for call in turned])

    def test_thirty_calls(self):
        calls = (CALLS + CALLS)[:30]
        self.assertEqual(split(answers(joined(calls))), [one(call) for call in calls])

    def test_no_taps_at_all_are_0_alone(self):
        ell = room_row([(0, 0), (10, 0), (10, 4), (4, 4), (4, 10), (0, 10)])
        self.assertEqual(answers(taps_call(ell, (2, 8, 5), (8, 2, 5))), [1, 0])

    def test_numbers_in_rows_are_no_calls(self):
        self.assertEqual(answers(judge_call([4, 4, 5, 1]) + [4]), [1, 0, 1, 0])

    def test_what_is_handed_in_stays(self):
        calls = joined(CALLS)
        before = list(calls)
        answers(calls)
        self.assertEqual(calls, before)

    def test_a_second_time_gives_the_same(self):
        calls = joined(CALLS)
        first = answers(calls)
        answers(set_call([9, 9]))
        again = answers(calls)
        self.assertEqual(first, again)
        again.append(7)
        self.assertEqual(answers(calls), first)

    def test_whole_numbers_come_out(self):
        given = answers(joined(CALLS))
        self.assertIs(type(given), list)
        self.assertEqual({type(number) for number in given}, {int})

    def test_the_most_that_is_asked_of_one_list(self):
        calls = taps_call(ROOM, (1, 2, 3), (4, 6, 5), 4) * 15
        found = split(answers(calls))
        self.assertEqual(len(found), 15)
        self.assertTrue(all(answer == found[0] for answer in found))
        long_rows = taps_call([10] * 15000, (1, 1, 1), (1, 1, 1), book=FULL_BOOK)
        self.assertEqual(one(long_rows), [-5, 1, 0])


if __name__ == "__main__":
    unittest.main()
