"""What write and cut are asked, once it is known to be allowed."""

from bitsound.heads import MOST_TIMES
from bitsound.reckon import highest_of_bits, lowest_of_bits
from bitsound.refusals import Misfit, NotAllowed
from bitsound.ways import Fields, Frame, take_bits, take_cut, take_key, take_lanes, take_rows, take_way


class Asked:
    def __init__(self, key, frame):
        self.key = key
        self.frame = frame
        self.shape = []
        self.rows = []


def take_asked(fields):
    key = take_key(fields)
    bits = take_bits(fields)
    cut = take_cut(fields, bits)
    lanes = take_lanes(fields)
    rows = take_rows(fields)
    way = take_way(fields, rows)
    if fields.place != len(fields.row):
        raise Misfit(fields.place)
    return Asked(key, Frame(bits, cut, lanes, way))


def is_shape(shape):
    return len(shape) == 4 and all([-128 <= part <= 127 for part in shape])


def are_of_bits(numbers, bits):
    return all([lowest_of_bits(bits) <= x <= highest_of_bits(bits) for x in numbers])


def rows_split(numbers, rows):
    times = len(numbers) // rows
    return [numbers[r * times:(r + 1) * times] for r in range(rows)]


# settings are key, bits, cut, lanes and rows, as they come in the call.
def asked_of(settings, told, shape, numbers):
    try:
        asked = take_asked(Fields(settings + told, False))
    except Misfit:
        raise NotAllowed() from None
    rows = len(asked.frame.way.row_ways)
    if not is_shape(shape) or len(numbers) == 0 or len(numbers) % rows != 0:
        raise NotAllowed()
    if len(numbers) // rows > MOST_TIMES or not are_of_bits(numbers, asked.frame.bits):
        raise NotAllowed()
    asked.shape = shape
    asked.rows = rows_split(numbers, rows)
    return asked
