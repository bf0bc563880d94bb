"""The document's promises 1 to 5, over the whole program."""

import random
import unittest

from tests.helper import (
    BEGIN, BOX, FULL_GAIN, GET, LOW_SAMPLE, QUIET, TOP_GAIN, TOP_SAMPLE, last_on_one_line, on_one_line, one, room_row,
    run_call, set_call, slow_delay, slow_gain, slow_paths, taps_call)

ELL = [(0, 0), (10, 0), (10, 4), (4, 4), (4, 10), (0, 10)]
SLANT = [(0, 0), (12, 0), (12, 12), (8, 12), (8, 8), (4, 4), (4, 12), (0, 12)]
BOOK = [32768 - 311 * place for place in range(36)]


def chance_taps(rng, top=TOP_GAIN, unit=1):
    delays = sorted(rng.sample(range(15), rng.randrange(1, 7)))
    return [number for delay in delays for number in (delay, unit * rng.choice((-1, 1)) * rng.randrange(1, top + 1))]


def chance_samples(rng, count, top=TOP_SAMPLE):
    return [rng.choice((0, rng.randrange(-top, top + 1))) for k in range(count)]


def through(taps, samples):
    """How many were held, and what comes out of a new line."""
    answer = last_on_one_line(set_call(taps), run_call(samples))
    return answer[1], answer[2:]


def out_of(taps, samples):
    """What comes out of a new line, if nothing is held."""
    held, out = through(taps, samples)
    if held:
        raise AssertionError(f"{held} were held")
    return out


def added(*rows):
    return [sum(numbers) for numbers in zip(*rows)]


def blocks_of(rng, samples, cuts):
    ends = sorted(rng.randrange(len(samples) + 1) for cut in range(cuts))
    return [samples[a:b] for a, b in zip([0] + ends, ends + [len(samples)])]


class Blocks(unittest.TestCase):
    """1: cut as one likes the same comes out."""

    def test_blocks_of_any_size(self):
        rng = random.Random(11)
        for turn in range(150):
            top = rng.choice((2 ** 23, 2 ** 25, TOP_GAIN))
            taps, samples = chance_taps(rng, top), chance_samples(rng, 60)
            blocks = blocks_of(rng, samples, rng.randrange(9))
            found = on_one_line(set_call(taps), *[run_call(block) for block in blocks])[1:]
            held = sum(answer[1] for answer in found)
            out = [number for answer in found for number in answer[2:]]
            self.assertEqual((held, out), through(taps, samples), (taps, blocks))

    def test_one_sample_at_a_time(self):
        taps, samples = [0, FULL_GAIN, 1, 7, 5, -2 ** 25], list(range(-14, 15))
        found = on_one_line(set_call(taps), *[run_call([sample]) for sample in samples])[1:]
        self.assertEqual([answer[2] for answer in found], out_of(taps, samples))

    def test_the_same_taps_set_between(self):
        rng = random.Random(12)
        for turn in range(50):
            taps, samples = chance_taps(rng), chance_samples(rng, 60)
            calls = [call for block in blocks_of(rng, samples, 5) for call in (set_call(taps), run_call(block))]
            found = on_one_line(*calls)[1::2]
            out = [number for answer in found for number in answer[2:]]
            self.assertEqual(out, through(taps, samples)[1])

    def test_other_taps_count_from_the_next_sample_on(self):
        rng = random.Random(13)
        for turn in range(100):
            first, second, samples = chance_taps(rng), chance_taps(rng), chance_samples(rng, 40)
            cut = rng.randrange(41)
            found = on_one_line(set_call(first), run_call(samples[:cut]), set_call(second), run_call(samples[cut:]))
            self.assertEqual(found[1][2:], through(first, samples)[1][:cut])
            self.assertEqual(found[3][2:], through(second, samples)[1][cut:])


class Sums(unittest.TestCase):
    """2: without rounding and holding all is a sum."""

    def test_of_what_each_tap_brings(self):
        rng = random.Random(14)
        for turn in range(100):
            taps, samples = chance_taps(rng, 1000, FULL_GAIN), chance_samples(rng, 40, 10 ** 5)
            each = [out_of(taps[i:i + 2], samples) for i in range(0, len(taps), 2)]
            self.assertEqual(out_of(taps, samples), added(*each))

    def test_of_two_inputs(self):
        rng = random.Random(15)
        for turn in range(100):
            taps = chance_taps(rng, 1000, FULL_GAIN)
            x, y = chance_samples(rng, 40, 10 ** 5), chance_samples(rng, 40, 10 ** 5)
            self.assertEqual(out_of(taps, added(x, y)), added(out_of(taps, x), out_of(taps, y)))

    def test_of_two_inputs_whose_parts_would_round(self):
        # Any gain does where samples are so large that nothing is left to round.
        rng = random.Random(16)
        for turn in range(100):
            taps = chance_taps(rng, 2 ** 20)
            x = [FULL_GAIN * sample for sample in chance_samples(rng, 30, 60)]
            y = [FULL_GAIN * sample for sample in chance_samples(rng, 30, 60)]
            self.assertEqual(out_of(taps, added(x, y)), added(out_of(taps, x), out_of(taps, y)))

    def test_of_what_each_path_brings(self):
        # A sample of 2^24 brings a path's very gain.
        s, e, rate, speed = (2, 1, 3), (3, 3, 6), 1, 2
        for corners in (BOX, ELL, SLANT):
            taps = one(taps_call(room_row(corners), s, e, 1, 0, rate, speed, BOOK))[1:]
            samples = [FULL_GAIN, 0, -FULL_GAIN] + [0] * 60
            each = []
            for walls, square in slow_paths(corners, 10, s, e, 1):
                gain = slow_gain(square, [0] * len(walls), BOOK, 0)
                each.append(out_of([slow_delay(square, rate, speed), gain], samples))
            self.assertGreater(len(each), 5)
            self.assertGreater(len(each), len(taps) // 2)
            self.assertEqual(out_of(taps, samples), added(*each))


class Later(unittest.TestCase):
    """3: later by k in, later by k out."""

    def test_later_by_k(self):
        rng = random.Random(17)
        for turn in range(100):
            taps, samples = chance_taps(rng, rng.choice((2 ** 24, TOP_GAIN))), chance_samples(rng, 40)
            held, out = through(taps, samples)
            for k in (1, 2, rng.randrange(3, 60)):
                self.assertEqual(through(taps, [0] * k + samples), (held, [0] * k + out))

    def test_a_later_tap_is_a_later_sample(self):
        rng = random.Random(18)
        for turn in range(50):
            taps, samples, k = chance_taps(rng), chance_samples(rng, 40), rng.randrange(1, 30)
            later = [number + k * (place % 2 == 0) for place, number in enumerate(taps)]
            held, out = through(taps, samples)
            self.assertEqual(through(later, samples + [0] * k)[1][:40 + k], ([0] * k + out)[:40 + k])


class OtherWayRound(unittest.TestCase):
    """4: the taps of the other way round are the same; room and book alone decide them."""

    def rooms(self):
        for corners in (BOX, ELL, SLANT):
            yield room_row(corners, 9, floor=6, ceiling=7, stuffs=[i % 6 for i in range(len(corners))])

    def test_the_same_taps(self):
        for room in self.rooms():
            for s, e in (((1, 2, 3), (3, 3, 5)), ((2, 7, 1), (7, 2, 8)), ((3, 8, 4), (1, 1, 4))):
                for band in range(4):
                    there = one(taps_call(room, s, e, 2, band, 48000, 34, BOOK))
                    self.assertEqual(there, one(taps_call(room, e, s, 2, band, 48000, 34, BOOK)))
                    self.assertEqual(there[0], 0)
                    self.assertGreater(len(there), 5)

    def test_the_line_does_not_decide(self):
        for room in self.rooms():
            call = taps_call(room, (1, 2, 3), (3, 3, 5), 2, 1, 48000, 34, BOOK)
            alone = one(call)
            found = on_one_line(call, set_call([3, 5]), call, run_call([1, 2, 3]), call, BEGIN, call)
            self.assertEqual(found[::2], [alone] * 4)

    def test_the_taps_of_a_room_are_taps(self):
        for room in self.rooms():
            taps = one(taps_call(room, (1, 2, 3), (3, 3, 5), 1, 1, 48000, 34, BOOK))[1:]
            self.assertEqual(on_one_line(set_call(taps), GET), [[0], [0] + taps])


class StaysQuiet(unittest.TestCase):
    """5: who's quiet stays quiet, as long as 0 goes in."""

    GAINS = (1, -1, 2 ** 23, -2 ** 23, 2 ** 23 - 1, 2 ** 24, -2 ** 24, TOP_GAIN)

    def test_quiet_stays_quiet(self):
        rng = random.Random(19)
        seen = [0, 0]
        for turn in range(600):
            delays = sorted(rng.sample(range(9), rng.randrange(4)))
            taps = [number for delay in delays for number in (delay, rng.choice(self.GAINS))]
            samples = [rng.choice((0, 0, 1, -1, LOW_SAMPLE)) for k in range(rng.randrange(4))] + [0] * rng.randrange(8)
            asked = [call for k in range(12) for call in (run_call([0]), QUIET)]
            found = on_one_line(set_call(taps), run_call(samples), QUIET, *asked)[2:]
            quiets = [answer[0] for answer in found[::2]]
            outs = [answer[2] for answer in found[1::2]]
            # Quiet is just: from here on all that comes out is 0.
            self.assertEqual(quiets, [int(not any(outs[k:])) for k in range(13)], (taps, samples))
            self.assertEqual(quiets, sorted(quiets))
            seen[quiets[0]] += 1
        self.assertGreater(min(seen), 100)

    def test_another_sample_ends_it(self):
        found = on_one_line(set_call([1, FULL_GAIN]), QUIET, run_call([5]), QUIET, run_call([0]), QUIET)
        self.assertEqual(found[1::2], [[1], [0], [1]])


if __name__ == "__main__":
    unittest.main()
