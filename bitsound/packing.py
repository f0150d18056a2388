"""Rows of bytes: plain items and numbers in, and out again."""

from bitsound.models import ALL_PLACES, Bank
from bitsound.reckon import low_first, number_at
from bitsound.refusals import BlockFault

LEAST_STATE = 65536
WORD = 65536
PIECE = 15


class Packer:
    def __init__(self, lanes):
        self.lanes = lanes
        self.bank = Bank(lanes)
        self.shares = []

    def put_symbol(self, number, symbol):
        model = self.bank.model_of(number)
        self.shares.append((model.begins[symbol], model.places(symbol)))
        self.bank.pass_symbol(number, symbol)

    def put_bits(self, value, bits):
        size = ALL_PLACES >> bits
        self.shares.append((value * size, size))
        self.bank.pass_bits()

    def put_number(self, number, value):
        bits = (value + 1).bit_length() - 1
        self.put_symbol(number, bits)
        left = value + 1 - (1 << bits)
        while bits > 0:
            piece = min(PIECE, bits)
            self.put_bits(left % (1 << piece), piece)
            left = left >> piece
            bits -= piece

    # From the last item to the first, so that reading can go from the first to the last.
    def packed(self):
        states = [LEAST_STATE] * self.lanes
        words = []
        for j in range(len(self.shares) - 1, -1, -1):
            begin = self.shares[j][0]
            size = self.shares[j][1]
            x = states[j % self.lanes]
            if x >= size * 131072:
                words.append(x % WORD)
                x = x // WORD
            states[j % self.lanes] = x // size * ALL_PLACES + x % size + begin
        row = []
        for x in states:
            row.extend(low_first(x, 4))
        for word in reversed(words):
            row.extend(low_first(word, 2))
        return row


# The row of bytes is the block's from place on.
class Unpacker:
    def __init__(self, block, place, lanes):
        if len(block) - place < 4 * lanes:
            raise BlockFault(3, len(block))
        self.block = block
        self.bank = Bank(lanes)
        self.states = [number_at(block, place + 4 * i, 4) for i in range(lanes)]
        for i, x in enumerate(self.states):
            if x < LEAST_STATE:
                raise BlockFault(3, place + 4 * i)
        if (len(block) - place) % 2 == 1:
            raise BlockFault(3, len(block) - 1)
        self.place = place + 4 * lanes

    def spot(self):
        return self.states[self.bank.lane()] % ALL_PLACES

    def word(self):
        if self.place >= len(self.block):
            raise BlockFault(3, len(self.block))
        self.place += 2
        return number_at(self.block, self.place - 2, 2)

    def move(self, begin, size):
        lane = self.bank.lane()
        x = self.states[lane]
        x = size * (x // ALL_PLACES) + x % ALL_PLACES - begin
        if x < LEAST_STATE:
            x = x * WORD + self.word()
        self.states[lane] = x

    def take_symbol(self, number):
        model = self.bank.model_of(number)
        symbol = model.symbol_at(self.spot())
        self.move(model.begins[symbol], model.places(symbol))
        self.bank.pass_symbol(number, symbol)
        return symbol

    def take_bits(self, bits):
        size = ALL_PLACES >> bits
        value = self.spot() // size
        self.move(value * size, size)
        self.bank.pass_bits()
        return value

    def take_number(self, number):
        bits = self.take_symbol(number)
        value = 1 << bits
        done = 0
        while done < bits:
            piece = min(PIECE, bits - done)
            value += self.take_bits(piece) << done
            done += piece
        return value - 1

    def at_end(self):
        return self.place == len(self.block) and all([x == LEAST_STATE for x in self.states])
