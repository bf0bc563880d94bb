"""A line: the thing that has taps, and what has gone in so far."""

from roomtaps.delays import LONGEST_DELAY
from roomtaps.sounds import brought, held, nearest, sample_at, sample_holds, still_brought
from roomtaps.tapsets import taps_refusal


class Line:
    def __init__(self):
        self.taps = []
        self.samples = []


def begin_answer(line):
    line.taps = []
    line.samples = []
    return [0]


# What has gone in stays: the new taps count for all that has been, too.
def set_answer(line, taps):
    refusal = taps_refusal(taps)
    if refusal:
        return refusal
    line.taps = list(taps)
    return [0]


def get_answer(line):
    return [0] + line.taps


def run_answer(line, samples):
    if not all([sample_holds(sample) for sample in samples]):
        return [-1]
    start = len(line.samples)
    line.samples = line.samples + samples
    rounded = [nearest(brought(line.taps, line.samples, time)) for time in range(start, len(line.samples))]
    # What comes to an end of the bounds by itself isn't held: only what's beyond.
    beyond = [number for number in rounded if not sample_holds(number)]
    return [0, len(beyond)] + [held(number) for number in rounded]


def past_answer(line, back):
    if back > LONGEST_DELAY:
        return [-1]
    return [0, sample_at(line.samples, len(line.samples) - 1 - back)]


def at_answer(line):
    return [len(line.samples)]


# A sample that's still brought may round to 0, or another tap may undo it:
# what counts is what comes out.
def quiet_answer(line):
    if all([nearest(total) == 0 for total in still_brought(line.taps, line.samples)]):
        return [1]
    return [0]
