"""Several calls in one list, and what a list's answers don't depend on."""

import unittest

from roomtaps.taps import answers
from tests.helper import BIG, BOX, FULL_BOOK, LOW, delay_call, judge_call, one, room_row, set_call, split, taps_call

ROOM = room_row(BOX)

CALLS = [
    delay_call(10000, 48000, 340),
    taps_call(ROOM, (5, 5, 5), (5, 5, 8)),
    judge_call([0, 1]),
    [4],
    set_call([0, 1, 5, -1]),
    delay_call(BIG, 1, 1),
    delay_call(1, 0, 1),
    taps_call([], (5, 5, 5), (5, 5, 8)),
    taps_call(ROOM, (5, 5, 5), (5, 5, 8), book=[]),
    taps_call(ROOM, (LOW, LOW, LOW), (BIG, BIG, BIG)),
    judge_call([]),
    judge_call([0, 0]),
    set_call([5]),
    set_call([]),
    [4],
    taps_call(ROOM, (5, 5, 5), (5, 5, 5), 2),
]


def joined(calls):
    return [number for call in calls for number in call]


class Lists(unittest.TestCase):
    def test_each_answer_has_its_count_before_it(self):
        self.assertEqual(answers(joined(CALLS[:9])), [
            2, 0, 14118,
            3, 0, 30, 1431655765,
            1, 0,
            1, 0,
            1, 0,
            1, -4,
            1, -1,
            3, -5, 1, 0,
            2, -6, 0,
        ])

    def test_calls_one_behind_another(self):
        self.assertEqual(split(answers(joined(CALLS))), [one(call) for call in CALLS])

    def test_any_call_may_be_first(self):
        for k in range(len(CALLS)):
            turned = CALLS[k:] + CALLS[:k]
            self.assertEqual(split(answers(joined(turned))), [one(call) for call in turned])

    def test_thirty_calls(self):
        calls = (CALLS + CALLS)[:30]
        self.assertEqual(split(answers(joined(calls))), [one(call) for call in calls])

    def test_no_taps_at_all_are_0_alone(self):
        ell = room_row([(0, 0), (10, 0), (10, 4), (4, 4), (4, 10), (0, 10)])
        self.assertEqual(answers(taps_call(ell, (2, 8, 5), (8, 2, 5))), [1, 0])

    def test_numbers_in_rows_are_no_calls(self):
        self.assertEqual(answers(judge_call([4, 4, 5, 1]) + [4]), [1, 0, 1, 0])

    def test_what_is_handed_in_stays(self):
        calls = joined(CALLS)
        before = list(calls)
        answers(calls)
        self.assertEqual(calls, before)

    def test_a_second_time_gives_the_same(self):
        calls = joined(CALLS)
        first = answers(calls)
        answers(set_call([9, 9]))
        again = answers(calls)
        self.assertEqual(first, again)
        again.append(7)
        self.assertEqual(answers(calls), first)

    def test_whole_numbers_come_out(self):
        given = answers(joined(CALLS))
        self.assertIs(type(given), list)
        self.assertEqual({type(number) for number in given}, {int})

    def test_the_most_that_is_asked_of_one_list(self):
        calls = taps_call(ROOM, (1, 2, 3), (4, 6, 5), 4) * 15
        found = split(answers(calls))
        self.assertEqual(len(found), 15)
        self.assertTrue(all(answer == found[0] for answer in found))
        long_rows = taps_call([10] * 15000, (1, 1, 1), (1, 1, 1), book=FULL_BOOK)
        self.assertEqual(one(long_rows), [-5, 1, 0])


if __name__ == "__main__":
    unittest.main()
