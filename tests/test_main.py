"""MAIN: of every sequence of calls, promises 1 to 6. Sequences of all sorts, beside the document told a second time."""

import random
import unittest
from collections import Counter

from tests.making import some_asking, some_setting, spoilt
from tests.reference import Fault, Reference
from tests.telling import ask

COUNTS = [1, 2, 3, 15, 16, 17, 33, 64]


def wrong_asking(dice, setting):
    call = list(some_asking(dice, dice.choice(["write", "cut"]), dice.randrange(2), setting, [1, 4]))
    sort = dice.randrange(6)
    if sort == 0:
        call[1 + dice.randrange(5)] = dice.choice([0, 2, 3, 5, 7, 25, 9007199254740991])
    elif sort == 1:
        call[6] = call[6][:-1] + dice.choice([[], [4], [0, 0]])
    elif sort == 2:
        call[6][dice.randrange(len(call[6]))] = dice.choice([0, 1, 3, 4, 9, 17, 1025, 9007199254740991])
    elif sort == 3:
        call[7] = call[7][:3] + dice.choice([[], [128], [-129]])
    elif sort == 4:
        call[8] = call[8] + [0]
    else:
        call[8] = call[8][:-1] + [dice.choice([-1, 1]) * 2 ** dice.choice([7, 15, 22, 23, 24, 52])]
    return tuple(call)


def some_call(dice, setting, blocks):
    sort = dice.randrange(20)
    if sort < 8 or not blocks:
        return some_asking(dice, "write", int(not blocks or dice.randrange(4) == 0), setting, COUNTS)
    if sort < 10:
        return some_asking(dice, "cut", dice.randrange(2), setting, [1, 2, 16, 17])
    if sort < 11:
        return ("head", spoilt(dice, dice.choice(blocks)))
    if sort < 15:
        return ("read", list(dice.choice(blocks)))
    if sort < 18:
        return ("read", spoilt(dice, dice.choice(blocks)))
    return ("open",) if dice.randrange(8) == 0 else wrong_asking(dice, setting)


def answer_of(reference, call):
    try:
        return getattr(reference, call[0])(*call[1:])
    except Fault as fault:
        return [-8, fault.kind, fault.place]


class Main(unittest.TestCase):
    def sequence(self, seed, how_many, met):
        dice = random.Random(seed)
        setting = some_setting(dice)
        reference = Reference()
        calls, wanted, blocks = [], [], []
        for i in range(how_many):
            if dice.randrange(10) == 0:
                setting = some_setting(dice)
            call = some_call(dice, setting, blocks)
            answer = answer_of(reference, call)
            calls.append(call)
            wanted.append(answer)
            met[(call[0], tuple(answer[:2]) if answer[0] == -8 else answer[0])] += 1
            if call[0] == "write" and answer[0] == 0:
                blocks.append(answer[2:])
        return calls, wanted

    def test_sequences(self):
        met = Counter()
        for seed in range(250):
            calls, wanted = self.sequence(seed, 20, met)
            with self.subTest(seed=seed):
                self.assertEqual(ask(*calls), wanted)
        for sort in (("open", 0), ("head", 0), ("head", (-8, 1)), ("head", (-8, 2)), ("read", 0), ("read", -4), ("read", (-8, 1)),
                     ("read", (-8, 2)), ("read", (-8, 3)), ("read", (-8, 4)), ("read", (-8, 5)), ("write", 0), ("write", -1),
                     ("write", -4), ("cut", 0), ("cut", -1), ("cut", -4)):
            self.assertGreater(met[sort], 0, sort)

    def test_a_call_taken_out_if_it_is_refused_changes_nothing(self):
        for seed in range(300, 360):
            calls, wanted = self.sequence(seed, 20, Counter())
            left = [i for i, answer in enumerate(wanted) if answer[0] == 0]
            self.assertEqual(ask(*[calls[i] for i in left]), [wanted[i] for i in left])


if __name__ == "__main__":
    unittest.main()
