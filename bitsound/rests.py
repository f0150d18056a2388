"""Rests coded, chunk by chunk, and read again."""

from bitsound.packing import Packer, Unpacker
from bitsound.refusals import BlockFault

CHUNK = 16
MODELS_OF_ROW = 16
MOST_VALUE = 35184372088832


def value_of(rest):
    return 2 * rest if rest >= 0 else -2 * rest - 1


def rest_of(value):
    return value // 2 if value % 2 == 0 else -(value + 1) // 2


def model_number(row, total):
    return MODELS_OF_ROW * row + min(MODELS_OF_ROW - 1, (total // 16).bit_length())


def rests_packed(rests, lanes):
    packer = Packer(lanes)
    totals = [0] * len(rests)
    for begin in range(0, len(rests[0]), CHUNK):
        for r, row in enumerate(rests):
            number = model_number(r, totals[r])
            chunk = [value_of(rest) for rest in row[begin:begin + CHUNK]]
            for value in chunk:
                packer.put_number(number, value)
            totals[r] = sum(chunk)
    return packer.packed()


# One row's numbers of one chunk; t rows + r is a fault's place.
def chunk_taken(unpacker, number, head, r, begin):
    chunk = []
    for t in range(begin, min(begin + CHUNK, head.times)):
        value = unpacker.take_number(number)
        if value > MOST_VALUE:
            raise BlockFault(4, t * head.rows + r)
        chunk.append(value)
    return chunk


def rests_unpacked(block, head):
    unpacker = Unpacker(block, head.end, head.lanes)
    rests = [[] for r in range(head.rows)]
    totals = [0] * head.rows
    for begin in range(0, head.times, CHUNK):
        for r in range(head.rows):
            chunk = chunk_taken(unpacker, model_number(r, totals[r]), head, r, begin)
            rests[r].extend([rest_of(value) for value in chunk])
            totals[r] = sum(chunk)
    if not unpacker.at_end():
        raise BlockFault(5, len(block))
    return rests
