"""Taps as lists: a delay and a gain by turns."""

from roomtaps.delays import LONGEST_DELAY

MOST_TAPS = 4096
# 2 to the power of 40.
MOST_GAIN = 1099511627776


# The refusal of a list that isn't taps, or an empty list.
def taps_refusal(taps):
    delays = [taps[i] for i in range(0, len(taps), 2)]
    if len(taps) % 2 != 0 or len(delays) > MOST_TAPS or min(delays, default=0) < 0:
        return [-1]
    before = -1
    for i in range(len(delays)):
        if not before < delays[i] <= LONGEST_DELAY or not gain_holds(taps[2 * i + 1]):
            return [-7, i]
        before = delays[i]
    return []


def gain_holds(gain):
    return gain != 0 and abs(gain) <= MOST_GAIN


# A band's taps of paths, each told as a delay and a gain.
def summed_taps(pairs):
    sums = {}
    for pair in pairs:
        sums[pair[0]] = sums.get(pair[0], 0) + pair[1]
    taps = []
    for delay in sorted(sums):
        if sums[delay] != 0:
            taps.append(delay)
            taps.append(min(sums[delay], MOST_GAIN))
    return taps


# The answer for paths that are told as delays and gains. A delay counts
# even if its gain is 0: it's the path that is too late.
def taps_answer(pairs):
    if max([pair[0] for pair in pairs], default=0) > LONGEST_DELAY:
        return [-4]
    taps = summed_taps(pairs)
    if len(taps) > 2 * MOST_TAPS:
        return [-8]
    return [0] + taps
