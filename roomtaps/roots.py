"""Roots in whole numbers: lengths are known by their squares alone."""


# The greatest whole number whose square is not above the given one.
def whole_root(square):
    if square == 0:
        return 0
    # Newton's steps fall all the way only if they begin at or above the root.
    guess = 1
    while guess * guess < square:
        guess = guess * 2
    better = (guess + square // guess) // 2
    while better < guess:
        guess = better
        better = (guess + square // guess) // 2
    return guess
