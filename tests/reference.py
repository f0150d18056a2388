"""The document told a second time, as plainly and as slowly as can be.

Nothing of the package is used here. Filters are run anew over all that came since the key, reading is
found from writing alone, and the check is a long division of polynomials: so a slip in the package is
not likely to be made here too.
"""

KINDS_OF_LANES = (1, 4, 8, 16)


class Fault(Exception):
    def __init__(self, kind, place):
        Exception.__init__(self, kind, place)
        self.kind = kind
        self.place = place


def clamp(x, low, high):
    return low if x < low else high if x > high else x


# ---- the check

def crc(data):
    """CRC of 32 bits by division with 1EDC6F41, highest bit first, of bits turned."""
    bits = []
    for byte in data:
        bits.extend((byte >> i) & 1 for i in range(8))
    bits.extend([0] * 32)
    for i in range(32):
        bits[i] ^= 1
    divisor = [1] + [(0x1EDC6F41 >> i) & 1 for i in range(31, -1, -1)]
    for i in range(len(bits) - 32):
        if bits[i]:
            for k in range(33):
                bits[i + k] ^= divisor[k]
    rest = bits[-32:]
    return sum((1 - bit) << i for i, bit in enumerate(rest))


def seal(block):
    """The block with its check set right."""
    bare = list(block[:12]) + [0, 0, 0, 0] + list(block[16:])
    return bare[:12] + list(crc(bare).to_bytes(4, "little")) + bare[16:]


# ---- models, numbers, rows of bytes

class Table:
    def __init__(self):
        self.b = {i: 512 * i for i in range(64)}
        self.b[64] = 32768
        self.seen = 0

    def update(self, s):
        highest = 0
        while (2 << highest) <= self.seen + 2:
            highest += 1
        rate = min(6, 1 + highest)
        for i in range(1, 64):
            t = i if i <= s else 32768 - (64 - i)
            self.b[i] = (self.b[i] * (2 ** rate - 1) + t) // 2 ** rate
        self.seen = min(65535, self.seen + 1)


def number_items(model, value):
    """Items: ('symbol', model, s) or ('bits', how many, v)."""
    c = len(bin(value + 1)) - 3
    items = [("symbol", model, c)]
    text = bin(value + 1)[3:]
    while text:
        piece = text[-15:]
        text = text[:-15]
        items.append(("bits", len(piece), int(piece, 2)))
    return items


def shares_of(items, lanes):
    tables = {}
    shares = []
    for first in range(0, len(items), lanes):
        group = items[first:first + lanes]
        for item in group:
            if item[0] == "bits":
                shares.append((item[2] * 2 ** (15 - item[1]), 2 ** (15 - item[1])))
            else:
                b = tables.setdefault(item[1], Table()).b
                shares.append((b[item[2]], b[item[2] + 1] - b[item[2]]))
        for item in group:
            if item[0] == "symbol":
                tables[item[1]].update(item[2])
    return shares


def items_in(items, lanes, states=None):
    """The row of bytes of the items; states other than 65,536 at first give a row that isn't at its end."""
    states = [65536] * lanes if states is None else list(states)
    words = []
    shares = shares_of(items, lanes)
    for j in reversed(range(len(items))):
        b, s = shares[j]
        x = states[j % lanes]
        if x >= s * 131072:
            words.insert(0, x % 65536)
            x //= 65536
        states[j % lanes] = x // s * 32768 + x % s + b
    row = b"".join(x.to_bytes(4, "little") for x in states)
    return list(row + b"".join(w.to_bytes(2, "little") for w in words))


class RowOut:
    def __init__(self, block, begin, lanes):
        row = block[begin:]
        self.length = len(block)
        if len(row) < 4 * lanes:
            raise Fault(3, self.length)
        self.states = [int.from_bytes(bytes(row[4 * i:4 * i + 4]), "little") for i in range(lanes)]
        for i, x in enumerate(self.states):
            if x < 65536:
                raise Fault(3, begin + 4 * i)
        if len(row) % 2:
            raise Fault(3, self.length - 1)
        rest = row[4 * lanes:]
        self.words = [rest[i] + 256 * rest[i + 1] for i in range(0, len(rest), 2)]
        self.j = 0
        self.tables = {}
        self.group = []

    def item(self, b, s):
        lane = self.j % len(self.states)
        x = self.states[lane]
        x = s * (x // 32768) + x % 32768 - b
        if x < 65536:
            if not self.words:
                raise Fault(3, self.length)
            x = x * 65536 + self.words.pop(0)
        self.states[lane] = x
        self.j += 1
        if self.j % len(self.states) == 0:
            for model, s in self.group:
                self.tables[model].update(s)
            self.group = []

    def place(self):
        return self.states[self.j % len(self.states)] % 32768

    def number(self, model):
        b = self.tables.setdefault(model, Table()).b
        c = max(i for i in range(64) if b[i] <= self.place())
        self.group.append((model, c))
        self.item(b[c], b[c + 1] - b[c])
        pieces = []
        left = c
        while left:
            bits = min(15, left)
            v = self.place() >> (15 - bits)
            self.item(v << (15 - bits), 1 << (15 - bits))
            pieces.insert(0, format(v, "0%db" % bits))
            left -= bits
        return int("1" + "".join(pieces), 2) - 1

    def at_end(self):
        return not self.words and set(self.states) == {65536}


def rest_places(rows, count):
    """(t, r) in the order in which rests are coded."""
    order = []
    for chunk in range(0, count, 16):
        for r in range(rows):
            order.extend((t, r) for t in range(chunk, min(chunk + 16, count)))
    return order


def model_for(values, t, r):
    """values: {(t, r): value} of what came before."""
    chunk = t // 16
    s = 0 if chunk == 0 else sum(values[(16 * chunk - 16 + i, r)] for i in range(16))
    return 16 * r + min(15, len(bin(s // 16)) - 2 if s // 16 else 0)


def values_items(values, rows, count):
    """The items of values as they stand, whatever they are."""
    items = []
    for t, r in rest_places(rows, count):
        items.extend(number_items(model_for(values, t, r), values[(t, r)]))
    return items


def folded(e):
    return -2 * e - 1 if e < 0 else 2 * e


def rests_items(rests):
    values = {(t, r): folded(e) for r, row in enumerate(rests) for t, e in enumerate(row)}
    return values_items(values, len(rests), len(rests[0]))


# ---- ways

def parse_told(told, rows):
    """((fixed, ((taps, gain, kind, scale), ..)), ..), joints; None if it's no way."""
    numbers = list(told)
    try:
        each = []
        for r in range(rows):
            fixed, how_many = numbers.pop(0), numbers.pop(0)
            if fixed > 3 or how_many > 2:
                return None
            stages = []
            for i in range(how_many):
                stage = tuple(numbers.pop(0) for j in range(4))
                if stage_misfit(stage) is not None:
                    return None
                stages.append(stage)
            each.append((fixed, tuple(stages)))
        joints = tuple(numbers.pop(0) for i in range(rows // 2))
    except IndexError:
        return None
    if numbers or any(joint > 3 for joint in joints):
        return None
    return tuple(each), joints


def stage_misfit(stage):
    """Which of a stage's numbers is the first that can't be, or None."""
    taps, gain, kind, scale = stage
    if not 1 <= taps <= 16:
        return 0
    if not 1 <= gain <= 1024:
        return 1
    if kind > 1 or (kind == 1 and taps > 8):
        return 2
    if scale > 12 or (kind == 1 and scale > 0):
        return 3
    return None


def told(way):
    each, joints = way
    numbers = []
    for fixed, stages in each:
        numbers += [fixed, len(stages)]
        for stage in stages:
            numbers += stage
    return numbers + list(joints)


def way_in_bytes(way):
    each, joints = way
    row = b""
    for fixed, stages in each:
        row += bytes([fixed, len(stages)])
        for taps, gain, kind, scale in stages:
            row += taps.to_bytes(2, "little") + gain.to_bytes(2, "little") + bytes([kind, scale, 0, 0])
    return list(row) + list(joints)


# ---- filters, always from the key's beginning on

def join(joints, rows):
    rows = [list(row) for row in rows]
    for p, joint in enumerate(joints):
        l, r = rows[2 * p], rows[2 * p + 1]
        for t, (a, b) in enumerate(list(zip(l, r))):
            l[t], r[t] = [(a, b), (a, b - a), (a - b, b), ((a + b) // 2, a - b)][joint]
    return rows


def unjoin(joints, rows):
    rows = [list(row) for row in rows]
    for p, joint in enumerate(joints):
        l, r = rows[2 * p], rows[2 * p + 1]
        for t, (a, b) in enumerate(list(zip(l, r))):
            l[t], r[t] = [(a, b), (a, a + b), (a + b, b), (a - b // 2 + b, a - b // 2)][joint]
    return rows


def filtered(row_way, row):
    """The rests of all the row, from a key on."""
    fixed, stages = row_way
    binomials = [[1], [1, -1], [1, -2, 1], [1, -3, 3, -1]][fixed]
    padded = [0, 0, 0] + list(row)
    signal = [sum(k * padded[3 + t - i] for i, k in enumerate(binomials)) for t in range(len(row))]
    for taps, gain, kind, scale in stages:
        signal = stage_run(taps, gain, kind, scale, signal)
    return signal


def stage_run(taps, gain, kind, scale, signal):
    most_w, most_h = ((2 ** 20, 2 ** 30) if kind else (32767, 32767))
    w = [0] * (taps + 1)
    h = [0] * (taps + 1)
    out = []
    for u in signal:
        total = sum(w[i] * h[i] for i in range(1, taps + 1))
        told_ahead = (total + 32768) // 65536 if kind else (2 ** scale * total + 16384) // 32768
        v = u - told_ahead
        out.append(v)
        for i in range(1, taps + 1):
            if v * h[i] > 0:
                w[i] = min(w[i] + gain, most_w)
            elif v * h[i] < 0:
                w[i] = max(w[i] - gain, -most_w)
        h[2:] = h[1:-1]
        h[1] = clamp(u // 2 ** scale, -most_h, most_h)
    return out


def unfiltered(row_way, past, rests):
    """What came, by writing alone: the rest of a 0 in its place tells what was foretold."""
    row = list(past)
    for e in rests:
        row.append(e - filtered(row_way, row + [0])[-1])
    return row[len(past):]


def cut_row(xs, bits, c, shape, wrong):
    """y of each x; wrong is all that was cut wrong before, the latest last, and goes on."""
    ys = []
    for x in xs:
        last = [0, 0, 0, 0] + wrong
        d = x - (sum(shape[j] * last[-1 - j] for j in range(4)) + 4) // 8
        y = clamp((d + 2 ** c // 2) // 2 ** c, -(2 ** (bits - 1) // 2 ** c), (2 ** (bits - 1) - 1) // 2 ** c)
        ys.append(y)
        wrong.append(clamp(y * 2 ** c - d, -2 ** 31 + 1, 2 ** 31 - 1))
        if c == 0:
            ys[-1], wrong[-1] = x, 0
    return ys


# ---- blocks

def head_bytes(key, rows, bits, cut, lanes, count):
    return [76, 83, key, rows, bits, cut, lanes, 0] + list(count.to_bytes(4, "little")) + [0] * 4


class HeadOut:
    def __init__(self, block):
        self.block = block
        self.at = 0

    def want(self, width, fits):
        if self.at + width > len(self.block):
            raise Fault(1, len(self.block))
        number = int.from_bytes(bytes(self.block[self.at:self.at + width]), "little")
        if not fits(number):
            raise Fault(1, self.at)
        self.at += width
        return number

    def way(self, rows):
        each = []
        for r in range(rows):
            fixed = self.want(1, lambda n: n <= 3)
            stages = []
            for i in range(self.want(1, lambda n: n <= 2)):
                taps = self.want(2, lambda n: 1 <= n <= 16)
                gain = self.want(2, lambda n: 1 <= n <= 1024)
                kind = self.want(1, lambda n: n == 0 or (n == 1 and taps <= 8))
                scale = self.want(1, lambda n: n == 0 or (n <= 12 and not kind))
                self.want(2, lambda n: n == 0)
                stages.append((taps, gain, kind, scale))
            each.append((fixed, tuple(stages)))
        return tuple(each), tuple(self.want(1, lambda n: n <= 3) for i in range(rows // 2))


def parse_head(block):
    """(key, rows, bits, cut, lanes, count), way or None, where the row of bytes begins."""
    out = HeadOut(block)
    out.want(1, lambda n: n == 76)
    out.want(1, lambda n: n == 83)
    key = out.want(1, lambda n: n <= 1)
    rows = out.want(1, lambda n: 1 <= n <= 4)
    bits = out.want(1, lambda n: 8 <= n <= 24)
    cut = out.want(1, lambda n: n < bits)
    lanes = out.want(1, lambda n: n in KINDS_OF_LANES)
    out.want(1, lambda n: n == 0)
    count = out.want(4, lambda n: 1 <= n <= 64)
    out.want(4, lambda n: True)
    way = out.way(rows) if key else None
    if seal(block) != list(block):
        raise Fault(2, 12)
    return (key, rows, bits, cut, lanes, count), way, out.at


class Reference:
    """One object with its calls. learnt: what's told of it, all y since the key, all that was cut wrong."""

    def __init__(self):
        self.learnt = None

    def open(self):
        self.learnt = None
        return [0]

    def head(self, block):
        return [0] + list(parse_head(block)[0])

    def read(self, block):
        (key, rows, bits, cut, lanes, count), way, begin = parse_head(block)
        if key:
            frame = (rows, bits, cut, lanes)
            past = [[] for r in range(rows)]
        else:
            if self.learnt is None or self.learnt["frame"] != (rows, bits, cut, lanes):
                return [-4]
            frame, way, past = self.learnt["frame"], self.learnt["way"], self.learnt["past"]
        out = RowOut(block, begin, lanes)
        values = {}
        for t, r in rest_places(rows, count):
            values[(t, r)] = out.number(model_for(values, t, r))
            if values[(t, r)] > 2 ** 45:
                raise Fault(4, t * rows + r)
        if not out.at_end():
            raise Fault(5, len(block))
        joined = join(way[1], past)
        rests = [[unfolded(values[(t, r)]) for t in range(count)] for r in range(rows)]
        ys = unjoin(way[1], [unfiltered(way[0][r], joined[r], rests[r]) for r in range(rows)])
        for t in range(count):
            for r in range(rows):
                if not -2 ** (bits - 1) <= ys[r][t] * 2 ** cut < 2 ** (bits - 1):
                    raise Fault(4, t * rows + r)
        self.learnt = {"frame": frame, "way": way, "past": [p + y for p, y in zip(past, ys)],
                       "wrong": [[] for r in range(rows)]}
        return [0, rows, rows * count] + [y * 2 ** cut for row in ys for y in row]

    def asked(self, key, bits, cut, lanes, rows, way_told, shape, numbers):
        """A refusal, or what's learnt behind it, the y, and the block's head."""
        ok = key <= 1 and 8 <= bits <= 24 and cut < bits and lanes in KINDS_OF_LANES and 1 <= rows <= 4
        way = parse_told(way_told, rows) if ok else None
        ok = way is not None and len(shape) == 4 and all(-128 <= s <= 127 for s in shape)
        ok = ok and len(numbers) % rows == 0 and 1 <= len(numbers) // rows <= 64
        if not ok or any(not -2 ** (bits - 1) <= x < 2 ** (bits - 1) for x in numbers):
            return -1
        frame = (rows, bits, cut, lanes)
        past = [[] for r in range(rows)]
        wrong = [[] for r in range(rows)]
        if not key:
            if self.learnt is None or self.learnt["frame"] != frame or self.learnt["way"] != way:
                return -4
            past = self.learnt["past"]
            wrong = [list(w) for w in self.learnt["wrong"]]
        count = len(numbers) // rows
        ys = [cut_row(numbers[r * count:(r + 1) * count], bits, cut, shape, wrong[r]) for r in range(rows)]
        return {"frame": frame, "way": way, "past": [p + y for p, y in zip(past, ys)], "wrong": wrong}, ys

    def write(self, key, bits, cut, lanes, rows, way_told, shape, numbers):
        asked = self.asked(key, bits, cut, lanes, rows, way_told, shape, numbers)
        if isinstance(asked, int):
            return [asked]
        learnt, ys = asked
        count = len(ys[0])
        each, joints = learnt["way"]
        rests = [filtered(w, row)[-count:] for w, row in zip(each, join(joints, learnt["past"]))]
        block = head_bytes(key, rows, bits, cut, lanes, count) + (way_in_bytes(learnt["way"]) if key else [])
        block = seal(block + items_in(rests_items(rests), lanes))
        self.learnt = learnt
        return [0, len(block)] + block

    def cut(self, key, bits, cut, lanes, rows, way_told, shape, numbers):
        asked = self.asked(key, bits, cut, lanes, rows, way_told, shape, numbers)
        if isinstance(asked, int):
            return [asked]
        shown = [y * 2 ** cut for row in asked[1] for y in row]
        return [0, len(shown)] + shown


def unfolded(value):
    return -(value + 1) // 2 if value % 2 else value // 2
