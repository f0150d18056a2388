"""What is learnt from block to block, and the blocks written and read by it."""

from bitsound.cascade import RowFilter, rests_of, rows_of
from bitsound.heads import head_bytes, sealed
from bitsound.reckon import highest_of_bits, lowest_of_bits
from bitsound.refusals import BlockFault, NotLearnt
from bitsound.rests import rests_packed, rests_unpacked
from bitsound.shaping import NO_ERRORS, Cutter
from bitsound.ways import Frame, way_told


# errors are what was cut wrong: of each row the last four, the latest first.
class Learnt:
    def __init__(self, frame):
        self.frame = frame
        self.filters = [RowFilter(row_way) for row_way in frame.way.row_ways]
        self.errors = [NO_ERRORS for row_way in frame.way.row_ways]

    def twin(self):
        other = Learnt(self.frame)
        other.filters = [row_filter.twin() for row_filter in self.filters]
        other.errors = list(self.errors)
        return other


def is_same_frame(one, other):
    if one.bits != other.bits or one.cut != other.cut or one.lanes != other.lanes:
        return False
    return way_told(one.way) == way_told(other.way)


# A twin or a new one, so that what is learnt stays as it is if a fault comes later.
def basis_for_asked(learnt, asked):
    if asked.key == 1:
        return Learnt(asked.frame)
    if learnt is None or not is_same_frame(learnt.frame, asked.frame):
        raise NotLearnt()
    return learnt.twin()


def basis_for_head(learnt, head):
    if head.key == 1:
        return Learnt(Frame(head.bits, head.cut, head.lanes, head.way))
    if learnt is None or len(learnt.frame.way.row_ways) != head.rows:
        raise NotLearnt()
    frame = learnt.frame
    if frame.bits != head.bits or frame.cut != head.cut or frame.lanes != head.lanes:
        raise NotLearnt()
    return learnt.twin()


def rows_kept(learnt, asked):
    kept = []
    errors = []
    for row, before in zip(asked.rows, learnt.errors):
        cutter = Cutter(asked.frame, asked.shape, before)
        kept.append([cutter.keep(x) for x in row])
        errors.append(cutter.errors)
    learnt.errors = errors
    return kept


def rows_shown(rows, cut):
    return [[y << cut for y in row] for row in rows]


def block_of(learnt, asked):
    frame = learnt.frame
    rests = rests_of(learnt.filters, frame.way.joints, rows_kept(learnt, asked))
    head = head_bytes(asked.key, frame, len(asked.rows[0]))
    return sealed(head + rests_packed(rests, frame.lanes))


# Time by time and row by row, so that the first one found has the least place.
def check_shown(rows, bits):
    for t in range(len(rows[0])):
        for r, row in enumerate(rows):
            if row[t] < lowest_of_bits(bits) or row[t] > highest_of_bits(bits):
                raise BlockFault(4, t * len(rows) + r)


def shown_of(learnt, block, head):
    rests = rests_unpacked(block, head)
    rows = rows_of(learnt.filters, learnt.frame.way.joints, rests)
    shown = rows_shown(rows, head.cut)
    check_shown(shown, head.bits)
    learnt.errors = [NO_ERRORS for row in rows]
    return shown
