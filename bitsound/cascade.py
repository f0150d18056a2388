"""The cascade of filters: pairs joined, fixed differences, stages that learn; and all of it backwards."""

from bitsound.reckon import held, sgn
from bitsound.ways import WIDE

MOST_NARROW = 32767
MOST_WIDE_WEIGHT = 1048576
MOST_WIDE_INPUT = 1073741824


def join_pair(joint, left, right):
    if joint == 1:
        return (left, right - left)
    if joint == 2:
        return (left - right, right)
    if joint == 3:
        return ((left + right) // 2, left - right)
    return (left, right)


def part_pair(joint, first, second):
    if joint == 1:
        return (first, second + first)
    if joint == 2:
        return (first + second, second)
    if joint == 3:
        # Sum and difference are odd together: so the half that was rounded off is known.
        total = 2 * first + second % 2
        return ((total + second) // 2, (total - second) // 2)
    return (first, second)


def pairs_changed(rows, joints, change):
    changed = list(rows)
    for pair, joint in enumerate(joints):
        both = [change(joint, a, b) for a, b in zip(rows[2 * pair], rows[2 * pair + 1])]
        changed[2 * pair] = [two[0] for two in both]
        changed[2 * pair + 1] = [two[1] for two in both]
    return changed


# past are the last inputs as they are held, the latest first.
class StageFilter:
    def __init__(self, stage):
        self.stage = stage
        self.weights = [0] * stage.taps
        self.past = [0] * stage.taps

    def twin(self):
        other = StageFilter(self.stage)
        other.weights = list(self.weights)
        other.past = list(self.past)
        return other

    def foretold(self):
        total = sum([w * h for w, h in zip(self.weights, self.past)])
        if self.stage.kind == WIDE:
            return (total + 32768) // 65536
        return ((total << self.stage.scale) + 16384) // 32768

    def learn(self, u, v):
        step = sgn(v) * self.stage.gain
        most = MOST_WIDE_WEIGHT if self.stage.kind == WIDE else MOST_NARROW
        self.weights = [held(w + step * sgn(h), most) for w, h in zip(self.weights, self.past)]
        most_past = MOST_WIDE_INPUT if self.stage.kind == WIDE else MOST_NARROW
        self.past = [held(u >> self.stage.scale, most_past)] + self.past[:-1]

    def onward(self, u):
        v = u - self.foretold()
        self.learn(u, v)
        return v

    def backward(self, v):
        u = v + self.foretold()
        self.learn(u, v)
        return u


# before holds the last difference of each order below the row's fixed one.
class RowFilter:
    def __init__(self, row_way):
        self.row_way = row_way
        self.before = [0] * row_way.fixed
        self.stage_filters = [StageFilter(stage) for stage in row_way.stages]

    def twin(self):
        other = RowFilter(self.row_way)
        other.before = list(self.before)
        other.stage_filters = [stage_filter.twin() for stage_filter in self.stage_filters]
        return other

    def onward(self, number):
        u = number
        for order in range(self.row_way.fixed):
            latest = u
            u = latest - self.before[order]
            self.before[order] = latest
        for stage_filter in self.stage_filters:
            u = stage_filter.onward(u)
        return u

    def backward(self, rest):
        u = rest
        for stage_filter in reversed(self.stage_filters):
            u = stage_filter.backward(u)
        for order in range(self.row_way.fixed - 1, -1, -1):
            u = u + self.before[order]
            self.before[order] = u
        return u


# The filters go on learning in these two.
def rests_of(filters, joints, rows):
    rests = []
    for row_filter, row in zip(filters, pairs_changed(rows, joints, join_pair)):
        rests.append([row_filter.onward(number) for number in row])
    return rests


def rows_of(filters, joints, rests):
    rows = []
    for row_filter, rest in zip(filters, rests):
        rows.append([row_filter.backward(e) for e in rest])
    return pairs_changed(rows, joints, part_pair)
