"""Ways: how blocks are joined and filtered, their bounds, and how they are told."""

from bitsound.reckon import low_first, number_at
from bitsound.refusals import Misfit

LANES = (1, 4, 8, 16)
WIDE = 1
MOST_TAPS = 16
MOST_WIDE_TAPS = 8
MOST_GAIN = 1024
MOST_SCALE = 12


class Stage:
    def __init__(self, taps, gain, kind, scale):
        self.taps = taps
        self.gain = gain
        self.kind = kind
        self.scale = scale


class RowWay:
    def __init__(self, fixed, stages):
        self.fixed = fixed
        self.stages = stages


class Way:
    def __init__(self, row_ways, joints):
        self.row_ways = row_ways
        self.joints = joints


# What a block that is no key shares with the blocks before it.
class Frame:
    def __init__(self, bits, cut, lanes, way):
        self.bits = bits
        self.cut = cut
        self.lanes = lanes
        self.way = way


# Fields one behind another, as bytes or as told numbers: so the bounds stand once for both.
class Fields:
    def __init__(self, row, as_bytes):
        self.row = row
        self.as_bytes = as_bytes
        self.place = 0

    def take_any(self, width):
        begin = self.place
        size = width if self.as_bytes else 1
        if begin + size > len(self.row):
            raise Misfit(len(self.row))
        self.place = begin + size
        return number_at(self.row, begin, size)

    def take(self, width, low, high):
        begin = self.place
        number = self.take_any(width)
        if number < low or number > high:
            raise Misfit(begin)
        return number

    def take_one_of(self, width, choices):
        begin = self.place
        number = self.take_any(width)
        if number not in choices:
            raise Misfit(begin)
        return number

    # Told numbers have no noughts between them.
    def take_nought(self, width):
        if self.as_bytes:
            self.take(width, 0, 0)


def take_key(fields):
    return fields.take(1, 0, 1)


def take_bits(fields):
    return fields.take(1, 8, 24)


def take_cut(fields, bits):
    return fields.take(1, 0, bits - 1)


def take_lanes(fields):
    return fields.take_one_of(1, LANES)


def take_rows(fields):
    return fields.take(1, 1, 4)


def take_stage(fields):
    taps = fields.take(2, 1, MOST_TAPS)
    gain = fields.take(2, 1, MOST_GAIN)
    # Too many taps are wrong only once the kind is known, so they are told at the kind.
    kind = fields.take(1, 0, WIDE if taps <= MOST_WIDE_TAPS else 0)
    scale = fields.take(1, 0, 0 if kind == WIDE else MOST_SCALE)
    fields.take_nought(2)
    return Stage(taps, gain, kind, scale)


def take_row_way(fields):
    fixed = fields.take(1, 0, 3)
    how_many = fields.take(1, 0, 2)
    return RowWay(fixed, [take_stage(fields) for i in range(how_many)])


def take_way(fields, rows):
    row_ways = [take_row_way(fields) for i in range(rows)]
    joints = [fields.take(1, 0, 3) for i in range(rows // 2)]
    return Way(row_ways, joints)


def stage_told(stage):
    return [stage.taps, stage.gain, stage.kind, stage.scale]


def stage_bytes(stage):
    return low_first(stage.taps, 2) + low_first(stage.gain, 2) + [stage.kind, stage.scale, 0, 0]


# Told or as bytes, only the stages look different.
def way_laid(way, lay_stage):
    laid = []
    for row_way in way.row_ways:
        laid.append(row_way.fixed)
        laid.append(len(row_way.stages))
        for stage in row_way.stages:
            laid.extend(lay_stage(stage))
    return laid + way.joints


def way_told(way):
    return way_laid(way, stage_told)


def way_bytes(way):
    return way_laid(way, stage_bytes)
