"""Models that adapt, and when they see what passed."""

SYMBOLS = 64
SLOWNESS = 6
MOST_SEEN = 65535
ALL_PLACES = 32768


# begins has the end of the last share behind it, so each share ends where the one behind it begins.
class Model:
    def __init__(self):
        self.begins = [512 * i for i in range(SYMBOLS)] + [ALL_PLACES]
        self.seen = 0

    def rate(self):
        return min(SLOWNESS, (self.seen + 2).bit_length())

    def see(self, symbol):
        rate = self.rate()
        old = self.begins
        weight = (1 << rate) - 1
        below = [(old[i] * weight + i) >> rate for i in range(1, symbol + 1)]
        above = [(old[i] * weight + ALL_PLACES - (SYMBOLS - i)) >> rate for i in range(symbol + 1, SYMBOLS)]
        self.begins = [0] + below + above + [ALL_PLACES]
        self.seen = min(MOST_SEEN, self.seen + 1)

    def places(self, symbol):
        return self.begins[symbol + 1] - self.begins[symbol]

    def symbol_at(self, spot):
        symbol = 0
        while self.begins[symbol + 1] <= spot:
            symbol += 1
        return symbol


# All the models of one block. What passed is seen at the end of its group, not before.
class Bank:
    def __init__(self, lanes):
        self.lanes = lanes
        self.models = {}
        self.passed = 0
        self.waiting = []

    def model_of(self, number):
        if number not in self.models:
            self.models[number] = Model()
        return self.models[number]

    def lane(self):
        return self.passed % self.lanes

    def pass_bits(self):
        self.passed += 1
        if self.passed % self.lanes == 0:
            for pair in self.waiting:
                self.model_of(pair[0]).see(pair[1])
            self.waiting = []

    def pass_symbol(self, number, symbol):
        self.waiting.append((number, symbol))
        self.pass_bits()
