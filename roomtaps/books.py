"""Books: what part of a sound comes back from each stuff, and what the air leaves."""

from roomtaps.roots import whole_root

BANDS = 4
AIR_PLACE = 32
BOOK_COUNT = 36
# A part is told in so many of one.
WHOLE_PART = 32768
AIR_LENGTH = 1024
# 2 to the power of 33: twice the gain of length 1 with nothing lost.
TWICE_FULL_GAIN = 8589934592


def book_fault(book):
    if len(book) != BOOK_COUNT:
        return len(book)
    for place in range(BOOK_COUNT):
        if book[place] > WHOLE_PART:
            return place
    return None


# All that a path is multiplied by in a band, in parts: its walls', then the air's.
def path_parts(book, band, stuffs, length_squared):
    parts = [book[BANDS * stuff + band] for stuff in stuffs]
    whole_lengths = whole_root(length_squared) // AIR_LENGTH
    return parts + [book[AIR_PLACE + band]] * whole_lengths


def gain_of_parts(length_squared, parts):
    kept = TWICE_FULL_GAIN
    whole = 1
    for part in parts:
        kept = kept * part
        whole = whole * WHOLE_PART
    # Rounding is put off to the last step: twice the gain is taken as the root
    # of an exact fraction, and only its floor decides which number is nearest.
    square = max(length_squared, 1)
    doubled = whole_root(kept * kept // (whole * whole * square))
    return (doubled + 1) // 2


def path_gain(book, band, stuffs, length_squared):
    return gain_of_parts(length_squared, path_parts(book, band, stuffs, length_squared))
