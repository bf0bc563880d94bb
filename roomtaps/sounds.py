"""Samples, and what comes out when they go through taps."""

# 2 to the power of 31: samples go from minus this to one less than this.
SAMPLE_BOUND = 2147483648
# 2 to the power of 24: the gain that leaves a sample as it is.
FULL_GAIN = 16777216


def sample_holds(number):
    return -SAMPLE_BOUND <= number < SAMPLE_BOUND


def held(number):
    return max(-SAMPLE_BOUND, min(number, SAMPLE_BOUND - 1))


# A half is added ahead of the floor, so that of two as near it's the greater.
def nearest(total):
    return (total + FULL_GAIN // 2) // FULL_GAIN


def sample_at(samples, time):
    if time < 0:
        return 0
    return samples[time]


# What all taps bring at a time, times FULL_GAIN: it's rounded once, for all
# taps together, and not here.
def brought(taps, samples, time):
    total = 0
    for i in range(0, len(taps), 2):
        total = total + taps[i + 1] * sample_at(samples, time - taps[i])
    return total


# What all taps will bring behind the last sample, of each time at which one
# brings a sample at all: delays are long, and most times bring nothing.
def still_brought(taps, samples):
    sums = {}
    for i in range(0, len(taps), 2):
        for place, sample in enumerate(samples):
            time = place + taps[i]
            if time >= len(samples):
                sums[time] = sums.get(time, 0) + taps[i + 1] * sample
    return list(sums.values())
