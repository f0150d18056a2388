"""The head of a block: written, read and checked."""

from bitsound.reckon import low_first
from bitsound.refusals import BlockFault, Misfit
from bitsound.ways import Fields, take_bits, take_cut, take_key, take_lanes, take_rows, take_way, way_bytes

FIRST_BYTE = 76
SECOND_BYTE = 83
CHECK_PLACE = 12
CHECK_WIDTH = 4
ALL_ONES = 4294967295
POLYNOMIAL = 2197175160
MOST_TIMES = 64


# A block that is no key has no way in its head: way is None there.
class Head:
    def __init__(self, key, rows, bits, cut, lanes, times):
        self.key = key
        self.rows = rows
        self.bits = bits
        self.cut = cut
        self.lanes = lanes
        self.times = times
        self.check = 0
        self.way = None
        self.end = 0


def check_of(row):
    check = ALL_ONES
    for byte in row:
        check = check ^ byte
        for i in range(8):
            check = (check >> 1) ^ (POLYNOMIAL if check & 1 else 0)
    return check ^ ALL_ONES


def with_check(block, check):
    return block[:CHECK_PLACE] + low_first(check, CHECK_WIDTH) + block[CHECK_PLACE + CHECK_WIDTH:]


# The block has 0 in the check's place.
def sealed(block):
    return with_check(block, check_of(block))


def take_head(fields):
    fields.take(1, FIRST_BYTE, FIRST_BYTE)
    fields.take(1, SECOND_BYTE, SECOND_BYTE)
    key = take_key(fields)
    rows = take_rows(fields)
    bits = take_bits(fields)
    cut = take_cut(fields, bits)
    lanes = take_lanes(fields)
    fields.take_nought(1)
    times = fields.take(4, 1, MOST_TIMES)
    head = Head(key, rows, bits, cut, lanes, times)
    head.check = fields.take_any(CHECK_WIDTH)
    if key == 1:
        head.way = take_way(fields, rows)
    head.end = fields.place
    return head


def head_of(block):
    try:
        head = take_head(Fields(block, True))
    except Misfit as e:
        raise BlockFault(1, e.place) from None
    if check_of(with_check(block, 0)) != head.check:
        raise BlockFault(2, CHECK_PLACE)
    return head


# The check is 0 here: it can be reckoned only once the whole block is there.
def head_bytes(key, frame, times):
    rows = len(frame.way.row_ways)
    row = [FIRST_BYTE, SECOND_BYTE, key, rows, frame.bits, frame.cut, frame.lanes, 0]
    row.extend(low_first(times, 4))
    row.extend(low_first(0, CHECK_WIDTH))
    if key == 1:
        row.extend(way_bytes(frame.way))
    return row
