"""Bits cut from a row, with what is cut wrong shaped into what comes behind."""

from bitsound.reckon import held, highest_of_bits, lowest_of_bits

MOST_ERROR = 2147483647
NO_ERRORS = (0, 0, 0, 0)


# errors are the last four of a row, the latest first. With cut 0 they stay 0, so nothing is cut there.
class Cutter:
    def __init__(self, frame, shape, errors):
        self.cut = frame.cut
        self.lowest = lowest_of_bits(frame.bits) >> frame.cut
        self.highest = highest_of_bits(frame.bits) >> frame.cut
        self.shape = shape
        self.errors = list(errors)

    def keep(self, x):
        pull = sum([part * error for part, error in zip(self.shape, self.errors)])
        d = x - (pull + 4) // 8
        half = (1 << self.cut) // 2
        y = max(self.lowest, min(self.highest, (d + half) >> self.cut))
        error = held((y << self.cut) - d, MOST_ERROR)
        self.errors = [error] + self.errors[:3]
        return y
