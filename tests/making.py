"""Calls made by a seeded source: ways of all sorts, sounds, and blocks that are spoilt."""

from tests.reference import parse_told, seal, way_in_bytes


def some_stage(dice):
    kind = dice.randrange(2)
    taps = dice.choice([1, 2, 3, 8] if kind else [1, 2, 5, 15, 16])
    gain = dice.choice([1, 2, 37, 500, 1023, 1024])
    return [taps, gain, kind, 0 if kind else dice.choice([0, 0, 1, 5, 12])]


def some_way(dice, rows):
    told = []
    for r in range(rows):
        stages = [some_stage(dice) for i in range(dice.randrange(3))]
        told += [dice.randrange(4), len(stages)] + sum(stages, [])
    return told + [dice.randrange(4) for i in range(rows // 2)]


def some_sound(dice, bits, rows, count):
    low, high = -2 ** (bits - 1), 2 ** (bits - 1) - 1
    sort = dice.randrange(5)
    if sort == 0:
        return [dice.randint(low, high) for i in range(rows * count)]
    if sort == 1:
        return [dice.choice([low, high]) for i in range(rows * count)]
    if sort == 2:
        return [dice.choice([low, high])] * (rows * count)
    if sort == 3:
        return [dice.randint(-3, 3) for i in range(rows * count)]
    numbers = []
    for r in range(rows):
        x, step = 0, 0
        for i in range(count):
            step = max(-9, min(9, step + dice.randint(-2, 2)))
            x = max(low, min(high, x + step))
            numbers.append(x)
    return numbers


def some_setting(dice):
    """bits, cut, lanes, rows, way."""
    bits = dice.choice([8, 9, 16, 23, 24])
    cut = dice.choice([0, 0, 1, 3, bits - 2, bits - 1])
    rows = dice.randint(1, 4)
    return [bits, cut, dice.choice([1, 4, 8, 16]), rows, some_way(dice, rows)]


def some_shape(dice):
    return dice.choice([[0] * 4, [-128] * 4, [127] * 4, [-7, 3, 0, 1], [dice.randint(-128, 127) for i in range(4)]])


def some_asking(dice, name, key, setting, counts):
    bits, cut, lanes, rows, way = setting
    numbers = some_sound(dice, bits, rows, dice.choice(counts))
    return (name, key, bits, cut, lanes, rows, list(way), some_shape(dice), numbers)


def spoilt(dice, block):
    """The block with something wrong in it, its check made right again most times."""
    block = list(block)
    sort = dice.randrange(6)
    if sort == 0:
        block = block[:dice.randrange(len(block) + 1)]
    elif sort == 1:
        block += [dice.randrange(256) for i in range(dice.randint(1, 4))]
    elif sort == 2:
        block[dice.randrange(min(len(block), 60))] = dice.randrange(256)
    elif sort == 3:
        block[dice.randrange(len(block))] ^= 1 << dice.randrange(8)
    elif sort == 4:
        place = dice.randrange(len(block))
        block[place:] = [dice.randrange(256) for i in block[place:]]
    else:
        block[3 + dice.randrange(4)] = dice.randrange(25)
    if len(block) >= 16 and dice.randrange(8):
        block = seal(block)
    return block


def head_length(setting):
    return 16 + len(way_in_bytes(parse_told(setting[4], setting[3])))
