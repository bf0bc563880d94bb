"""Delays of lengths, at a rate and a speed."""

from roomtaps.roots import whole_root

LONGEST_DELAY = 262143
MOST_RATE = 192000
MOST_SPEED = 1048576
# 2 to the power of 40.
MOST_LENGTH_SQUARED = 1099511627776


def rate_and_speed_hold(rate, speed):
    return 1 <= rate <= MOST_RATE and 1 <= speed <= MOST_SPEED


def path_delay(length_squared, rate, speed):
    # The delay is the floor of (2 * length * rate + speed) / (2 * speed).
    # Only the first term may be broken, and a floor of a floor is exact.
    doubled = whole_root(4 * rate * rate * length_squared)
    return (doubled + speed) // (2 * speed)


def delay_answer(length_squared, rate, speed):
    if not rate_and_speed_hold(rate, speed):
        return [-1]
    if length_squared > MOST_LENGTH_SQUARED:
        return [-4]
    delay = path_delay(length_squared, rate, speed)
    if delay > LONGEST_DELAY:
        return [-4]
    return [0, delay]
