"""A bar's sides: their lock values, swells and forces, row by row."""

from rollforce.bars import MOST_FORCE


class Side:
    """One side of a bar, with its lock value and its swell as the rows so far leave them."""

    def __init__(self, bar, number):
        self.bar = bar
        self.cancel_bit = bar.track_bit("cancel", number, 0)
        self.lock_bits = [bar.track_bit("lock", which, number) for which in range(3)]
        self.up_bit = bar.track_bit("up", number, 0)
        self.down_bit = bar.track_bit("down", number, 0)
        self.accent_bit = bar.track_bit("accent", number, 0)
        self.soft_bit = bar.track_bit("soft", 0, 0)
        self.lock_value = 0
        self.swell = 0

    def pass_row(self, sounding):
        self.pass_locks(sounding)
        self.pass_swell(sounding)

    def pass_locks(self, sounding):
        if (sounding & self.cancel_bit) != 0:
            self.lock_value = 0
        for which, bit in enumerate(self.lock_bits):
            if (sounding & bit) != 0:
                self.lock_value = self.lock_value | (1 << which)

    def pass_swell(self, sounding):
        rising = (sounding & self.up_bit) != 0
        falling = (sounding & self.down_bit) != 0
        if rising and not falling:
            self.swell = min(self.swell + self.bar.rise, self.bar.most)
        if falling and not rising:
            self.swell = max(self.swell - self.bar.fall, 0)

    def force_by(self, sounding):
        """The force at the row that was passed last, by the tracks that sound there."""
        force = self.bar.lock_force(self.lock_value) + self.swell // 8
        if (sounding & self.accent_bit) != 0:
            force += self.bar.accent
        force = min(force, MOST_FORCE)
        if (sounding & self.soft_bit) != 0:
            force -= force // 4
        return force


def both_sides(bar):
    """Both sides as they are before row 0."""
    return [Side(bar, 0), Side(bar, 1)]


def sides_behind(bar, strip, last):
    """Both sides as they are behind a row."""
    sides = both_sides(bar)
    for row in range(last + 1):
        sounding = strip.sounding(row, bar.tail)
        for side in sides:
            side.pass_row(sounding)
    return sides
