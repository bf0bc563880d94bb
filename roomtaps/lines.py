"""A line: the thing that has taps, and what has gone in so far."""

from roomtaps.tapsets import taps_refusal


class Line:
    def __init__(self):
        self.taps = []
        self.samples = []


def begin_answer(line):
    line.taps = []
    line.samples = []
    return [0]


# What has gone in stays: the new taps count for all that has been, too.
def set_answer(line, taps):
    refusal = taps_refusal(taps)
    if refusal:
        return refusal
    line.taps = list(taps)
    return [0]
