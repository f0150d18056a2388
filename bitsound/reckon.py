"""Small reckonings over whole numbers that several files share."""


def held(x, most):
    return max(-most, min(most, x))


def sgn(x):
    if x > 0:
        return 1
    if x < 0:
        return -1
    return 0


def low_first(number, width):
    return [(number >> (8 * i)) & 255 for i in range(width)]


# With a width of 1 the row may hold any whole numbers, not bytes alone.
def number_at(row, place, width):
    number = row[place]
    for i in range(1, width):
        number += row[place + i] << (8 * i)
    return number


def lowest_of_bits(bits):
    return -(1 << (bits - 1))


def highest_of_bits(bits):
    return (1 << (bits - 1)) - 1
