"""Promises 1 and 2: what's read is what cut told, and a block read is the one written of what it shows."""

import random
import unittest

from tests.making import head_length, some_asking, some_setting, some_sound, spoilt
from tests.reference import items_in, seal, values_items
from tests.telling import ask, block_of, last, read, write


def chain_of(dice, setting, counts):
    """Writes, a key first, with a cut ahead of each that asks the same."""
    calls = []
    for i in range(5):
        asked = some_asking(dice, "write", int(i == 0 or dice.randrange(6) == 0), setting, counts)
        calls.append(("cut",) + asked[1:])
        calls.append(asked)
    return calls


class Promise1(unittest.TestCase):
    def test_read_is_what_cut_tells(self):
        for seed in range(150):
            dice = random.Random(seed)
            setting = some_setting(dice)
            calls = chain_of(dice, setting, [1, 2, 15, 16, 17, 63, 64])
            told = ask(*calls)
            kept = [answer[2:] for answer in told[0::2]]
            shown = ask(*[read(answer[2:]) for answer in told[1::2]])
            with self.subTest(seed=seed):
                self.assertEqual([answer[:2] for answer in shown], [[0, setting[3]]] * 5)
                self.assertEqual([answer[3:] for answer in shown], kept)
                self.assertEqual([answer[2] for answer in shown], [len(row) for row in kept])
                if setting[1] == 0:
                    self.assertEqual(kept, [call[8] for call in calls[1::2]])

    def test_written_and_read_by_turns_on_one_object(self):
        way = [2, 1, 6, 90, 0, 1]
        first, second = [3, 1, 4, 1, 5], [9, 2, 6, 5, 3]
        one = block_of(write(first, way=way))
        two = block_of(write(first, way=way), write(second, key=0, way=way))
        told = ask(write(first, way=way), read(one), read(two), write(first, way=way), write(second, key=0, way=way), read(one),
                   read(two))
        self.assertEqual([told[1][3:], told[2][3:], told[5][3:], told[6][3:]], [first, second] * 2)
        self.assertEqual(told[4][2:], two)

    def test_what_is_shown_stays_within_half_of_what_is_cut_where_nothing_is_shaped(self):
        numbers = list(range(-128, -64))
        for cut in range(7):
            shown = last(read(block_of(write(numbers, cut=cut))))[3:]
            self.assertTrue(all(abs(a - b) * 2 <= 2 ** cut and b % 2 ** cut == 0 for a, b in zip(numbers, shown)))


class Promise2(unittest.TestCase):
    def again(self, blocks, setting, shape):
        """The blocks read one behind another, and written again of what they show."""
        bits, cut, lanes, rows, way = setting
        shown = [answer[3:] for answer in ask(*[read(block) for block in blocks])]
        calls = [write(row, key=block[2], bits=bits, cut=cut, lanes=lanes, rows=rows, way=way, shape=shape)
                 for block, row in zip(blocks, shown)]
        return [answer[2:] for answer in ask(*calls)]

    def test_blocks_written_read_and_written_again(self):
        for seed in range(120):
            dice = random.Random(1000 + seed)
            setting = some_setting(dice)
            calls = [some_asking(dice, "write", int(i == 0), setting, [1, 3, 16, 17, 64]) for i in range(4)]
            blocks = [answer[2:] for answer in ask(*calls)]
            for shape in ([0, 0, 0, 0], [127, -128, 50, 1]):
                with self.subTest(seed=seed, shape=shape):
                    self.assertEqual(self.again(blocks, setting, shape), blocks)

    def test_each_block_at_once_behind_its_reading(self):
        for seed in range(60):
            dice = random.Random(2000 + seed)
            setting = some_setting(dice)
            bits, cut, lanes, rows, way = setting
            calls = [some_asking(dice, "write", int(i == 0), setting, [1, 17]) for i in range(3)]
            blocks = [answer[2:] for answer in ask(*calls)]
            shown = last(*[read(block) for block in blocks])[3:]
            told = last(read(blocks[0]), read(blocks[1]), write(shown, 0, bits, cut, lanes, rows, way, [99, -99, 9, -9]))
            self.assertEqual(told[2:], blocks[2])

    def test_blocks_made_of_any_values_that_can_be_read(self):
        for seed in range(60):
            dice = random.Random(3000 + seed)
            rows, count, lanes = dice.randint(1, 4), dice.choice([1, 5, 20]), dice.choice([1, 4, 8, 16])
            way = [0, 1, 3, 40, 0, 0] * rows + [0] * (rows // 2)
            setting = [24, 5, lanes, rows, way]
            start = block_of(write(some_sound(dice, 24, rows, 1), bits=24, cut=5, lanes=lanes, rows=rows, way=way))
            values = {(t, r): dice.randrange(2000) for t in range(count) for r in range(rows)}
            row = items_in(values_items(values, rows, count), lanes)
            block = seal(start[:8] + [count, 0, 0, 0] + start[12:head_length(setting)] + row)
            self.assertEqual(last(read(block))[0], 0)
            self.assertEqual(self.again([block], setting, [1, 2, 3, 4]), [block])

    def test_no_two_rows_of_bytes_say_the_same(self):
        """A spoilt block that's read all the same is written again as it was read, to the byte."""
        went = 0
        for seed in range(400):
            dice = random.Random(4000 + seed)
            setting = [16, 0, dice.choice([1, 4]), 1, [0, 0]]
            call = some_asking(dice, "write", 1, setting, [1, 2, 3])
            block = block_of(call)
            other = spoilt(dice, block)
            if other != block and last(read(other))[0] == 0:
                went += 1
                frame = [other[4], other[5], other[6], other[3], other[16:18]]
                self.assertEqual(self.again([other], frame, [0] * 4), [other])
        self.assertGreater(went, 0)


if __name__ == "__main__":
    unittest.main()
