"""Calls told as the interface says, and its answers taken apart again."""

from bitsound.blocks import answers

NUMBERS = {"open": 0, "head": 1, "read": 2, "write": 3, "cut": 4}
NO_SHAPE = [0, 0, 0, 0]


def flat(calls):
    """calls: ('open',), ('head', bytes), ('read', bytes), ('write', key, bits, cut, lanes, rows, way, shape, numbers)."""
    line = []
    for call in calls:
        line.append(NUMBERS[call[0]])
        for part in call[1:]:
            if isinstance(part, list):
                line.append(len(part))
                line.extend(part)
            else:
                line.append(part)
    return line


def parted(answered):
    result = []
    place = 0
    while place < len(answered):
        size = answered[place]
        result.append(answered[place + 1:place + 1 + size])
        place += 1 + size
    return result


def ask(*calls):
    """The answers to calls on one new object."""
    return parted(answers(flat(calls)))


def last(*calls):
    return ask(*calls)[-1]


def write(numbers, key=1, bits=8, cut=0, lanes=1, rows=1, way=None, shape=None):
    return asking("write", numbers, key, bits, cut, lanes, rows, way, shape)


def cut_of(numbers, key=1, bits=8, cut=0, lanes=1, rows=1, way=None, shape=None):
    return asking("cut", numbers, key, bits, cut, lanes, rows, way, shape)


def asking(name, numbers, key, bits, cut, lanes, rows, way, shape):
    plain = [0, 0] * rows + [0] * (rows // 2) if way is None else way
    return (name, key, bits, cut, lanes, rows, list(plain), list(NO_SHAPE if shape is None else shape), list(numbers))


def block_of(*calls):
    """The bytes of the block that the last of these calls, a write, gives."""
    answer = last(*calls)
    assert answer[0] == 0, answer
    return answer[2:]


def read(block):
    return ("read", list(block))


def head(block):
    return ("head", list(block))
