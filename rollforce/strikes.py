"""Strikes: which keys are struck, row by row, and how hard."""

from rollforce.sides import both_sides

MOST_KEYS = 128


def key_bits(bar):
    """Each key that the bar has, the lowest first, with its track's bit."""
    bits = [(key, bar.track_bit("key", key, 0)) for key in range(MOST_KEYS)]
    return [pair for pair in bits if pair[1] != 0]


def struck_keys(keys, begun):
    return [key for key, bit in keys if (begun & bit) != 0]


def list_strikes(bar, strip):
    """The row, the key and the force of each strike, one strike behind another, by row, then by key."""
    keys = key_bits(bar)
    sides = both_sides(bar)
    listed = []
    before = 0
    for row in range(len(strip.rows)):
        sounding = strip.sounding(row, bar.tail)
        for side in sides:
            side.pass_row(sounding)
        # What sounded at the row before goes on: it is not struck again.
        begun = sounding ^ (sounding & before)
        forces = [side.force_by(sounding) for side in sides]
        for key in struck_keys(keys, begun):
            listed.extend([row, key, forces[bar.side_of_key(key)]])
        before = sounding
    return listed
